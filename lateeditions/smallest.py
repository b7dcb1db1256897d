"""The smallest desk that shows the same, and desks that are alike."""

from lateeditions.common import parting
from lateeditions.desks import Desk, desk_moves, desk_sights
from lateeditions.errors import BadDeeds
from lateeditions.likeness import desk_lots


def smallest(desk):
    """The desk of the standings that can come, one of each lot of alike ones."""
    numbers = desk_lots(desk)
    keepers = {}
    for standing in desk.come():
        keepers.setdefault(numbers[standing], standing)
    kept = list(keepers.values())
    deeds = {
        deed: {one: keepers[numbers[desk.lead(one, [deed])]] for one in kept}
        for deed in desk.deeds
    }
    return Desk(kept, deeds, {one: desk.sight(one) for one in kept})


def have_same_deeds(first, second):
    return sorted(first.deeds) == sorted(second.deeds)


def parted_by(first, second):
    """A shortest row behind which the starts of desks with the same deeds show otherwise."""
    signs = {}
    moves = {}
    for number, desk in enumerate([first, second]):
        leads = desk_moves(desk)
        sights = desk_sights(desk)
        for one in desk.standings:
            signs[(number, one)] = sights[one]
            moves[(number, one)] = {deed: (number, leads[one][deed]) for deed in desk.deeds}
    return parting((0, first.start), (1, second.start), signs, moves)


def desks_alike(first, second):
    return have_same_deeds(first, second) and parted_by(first, second) is None


def desks_parted(first, second):
    """A shortest row behind which something else is seen from the starts, or None."""
    if not have_same_deeds(first, second):
        raise BadDeeds(second.deeds)
    return parted_by(first, second)
