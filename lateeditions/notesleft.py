"""Notes that are kept beside carried standings, so that these can be led back."""

from lateeditions.back import are_falling, carried_pairs, pairs_behind
from lateeditions.common import is_int, is_table
from lateeditions.errors import BadNotes
from lateeditions.likeness import desk_lots


def notes(change):
    """Notes that are enough, as few as can be."""
    numbers = desk_lots(change.first)
    met = {standing: [] for standing in change.second.standings}
    told = {}
    for one, other in carried_pairs(change):
        if numbers[one] not in met[other]:
            met[other].append(numbers[one])
        told[one] = met[other].index(numbers[one])
    return told


def has_note_form(change, value):
    """Whether any value is notes, be they enough or not."""
    if not is_table(value, change.first.come()):
        return False
    return all([is_int(note) and note >= 0 for note in value.values()])


def are_notes(change, value):
    """Whether any value is notes that are enough."""
    if not has_note_form(change, value):
        return False
    numbers = desk_lots(change.first)
    pairs = list(carried_pairs(change))
    return not any([
        value[one[0]] == value[other[0]] and are_falling(numbers, one, other)
        for one in pairs for other in pairs
    ])


def back_by(change, kept):
    """The dict from all tuples (carried standing, note) to the first standings that come to them."""
    if not are_notes(change, kept):
        raise BadNotes(kept)
    told = {}
    for one, other in carried_pairs(change):
        if (other, kept[one]) not in told:
            told[(other, kept[one])] = one
    return told


def lasting_quarrels(change):
    """The pairs of standings of the first desk that can come and must not have one note.

    Two of them come to pairs that go together, have one second standing, and first ones that are
    not alike.
    """
    numbers = desk_lots(change.first)
    comes = {pair[0]: list(pairs_behind(change, pair)) for pair in carried_pairs(change)}
    return [
        (one, other) for one in comes for other in comes
        if any([are_falling(numbers, this, that) for this in comes[one] for that in comes[other]])
    ]


def lasting_notes(change):
    """Notes that last, as few as can be, or None."""
    quarrels = lasting_quarrels(change)
    standings = change.first.come()
    if any([one == other for one, other in quarrels]):
        return None
    for many in range(1, len(standings)):
        told = noted(standings, quarrels, many, {})
        if told is not None:
            return told
    return {standing: number for number, standing in enumerate(standings)}


def noted(standings, quarrels, many, told):
    """The notes that are told, gone on with for the other standings with at most so many; or None."""
    if len(told) == len(standings):
        return told
    standing = standings[len(told)]
    # Notes that no standing has yet are as good as each other: one of them is tried.
    tried = min(many, len(set(list(told.values()))) + 1)
    for note in range(tried):
        if not any([told[other] == note for other in told if (standing, other) in quarrels]):
            found = noted(standings, quarrels, many, {**told, standing: note})
            if found is not None:
                return found
    return None


def do_notes_last(change, value):
    """Whether any value is notes that last."""
    if not has_note_form(change, value):
        return False
    return all([value[one] != value[other] for one, other in lasting_quarrels(change)])
