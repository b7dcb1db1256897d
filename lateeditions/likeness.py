"""Standings of one desk that are alike: the same is seen behind all rows of deeds."""

from lateeditions.common import gathered, is_one_of, lot_numbers, parting
from lateeditions.desks import desk_moves, desk_sights
from lateeditions.errors import BadStanding


def alike(desk, one, other):
    return parting_row(desk, one, other) is None


def parting_row(desk, one, other):
    """A shortest row of deeds behind which something else is seen, or None."""
    for standing in (one, other):
        if not is_one_of(standing, desk.standings):
            raise BadStanding(standing)
    return parting(one, other, desk_sights(desk), desk_moves(desk))


def lots(desk):
    """The list of the lists of standings that are alike."""
    return gathered(desk.standings, desk_lots(desk))


def desk_lots(desk):
    """The dict from standings to the numbers of their lots."""
    return lot_numbers(desk.standings, desk_sights(desk), desk_moves(desk))


def is_likeness(desk, value):
    """Whether any value parts a desk into lots that sights and deeds keep together."""
    if not is_parting(desk.standings, value):
        return False
    places = {standing: number for number, lot in enumerate(value) for standing in lot}
    return all([keeps_together(desk, lot, places) for lot in value])


def is_parting(standings, value):
    """Whether any value is a list of lists, none empty, with each standing once."""
    if not isinstance(value, list):
        return False
    if not all([isinstance(lot, list) and len(lot) > 0 for lot in value]):
        return False
    entries = [entry for lot in value for entry in lot]
    return len(entries) == len(standings) and all([one in entries for one in standings])


def keeps_together(desk, lot, places):
    """Whether a lot has one sight, and each deed leads it into one lot."""
    signs = [
        [desk.sight(standing)] + [places[desk.lead(standing, [deed])] for deed in desk.deeds]
        for standing in lot
    ]
    return all([sign == signs[0] for sign in signs])
