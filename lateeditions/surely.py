"""Rows that bring standings together, and rows that tell where one came to."""

from lateeditions.common import are_different, first_met, is_one_of, lot_moves, shortest_row
from lateeditions.desks import desk_moves, desk_sights
from lateeditions.errors import BadStandings
from lateeditions.likeness import desk_lots


def check_standings(desk, value):
    if not are_some(desk, value):
        raise BadStandings(value)


def are_some(desk, value):
    """Whether any value is a list of one or more different standings of a desk."""
    if not isinstance(value, list) or not 1 <= len(value) <= len(desk.standings):
        return False
    return all([is_one_of(entry, desk.standings) for entry in value]) and are_different(value)


def sure_row(desk, standings):
    """A shortest row that leads all the standings to alike ones, or None."""
    check_standings(desk, standings)
    numbers = desk_lots(desk)
    moves = lot_moves(numbers, desk_moves(desk))

    def led_lots(lots):
        return [(deed, led_all(lots, moves, deed)) for deed in desk.deeds]

    start = tuple(sorted({numbers[standing] for standing in standings}))
    return shortest_row(start, led_lots, lambda lots: len(lots) == 1)


def led_all(lots, moves, deed):
    """The lots to which a deed leads some, each once, ascending."""
    return tuple(sorted({moves[lot][deed] for lot in lots}))


def telling_row(desk, standings):
    """A shortest row behind which the sights along it tell the standing, but for alike ones."""
    check_standings(desk, standings)
    numbers = desk_lots(desk)
    moves = lot_moves(numbers, desk_moves(desk))
    sights = desk_sights(desk)
    signs = {numbers[standing]: sights[standing] for standing in desk.standings}

    def led_groups(groups):
        return [
            (deed, told_apart([led_all(group, moves, deed) for group in groups], signs))
            for deed in desk.deeds
        ]

    start = told_apart([tuple(sorted({numbers[standing] for standing in standings}))], signs)
    return shortest_row(start, led_groups, lambda groups: groups == ())


def told_apart(groups, signs):
    """The groups of lots that are still not told from each other, parted by what is seen."""
    parts = []
    for group in groups:
        for sign in first_met([signs[lot] for lot in group]):
            part = tuple([lot for lot in group if signs[lot] == sign])
            if len(part) > 1 and part not in parts:
                parts.append(part)
    return tuple(sorted(parts))
