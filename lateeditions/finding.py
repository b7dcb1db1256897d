"""Rows that answer elder deeds under a map, and closed lots where no row does."""

from lateeditions.common import are_different, is_one_of, lot_moves, reached, shortest_row
from lateeditions.desks import desk_moves
from lateeditions.likeness import desk_lots
from lateeditions.vectors import goal_of, is_vector, led_vector, lots_along, vector_of


def row_for(first, second, places, deed):
    """A shortest row of newer deeds that answers an elder deed, or None."""
    goal = goal_of(first, second, places, deed)
    return row_between(second, vector_of(first, second, places), goal)


def row_between(second, vector, goal):
    """A shortest row that leads a vector to one that is alike to the goal, or None."""
    moves = lot_moves(desk_lots(second), desk_moves(second))
    aim = tuple(lots_along(second, goal))

    def led_lots(lots):
        return [(deed, led_each(moves, lots, deed)) for deed in second.deeds]

    return shortest_row(tuple(lots_along(second, vector)), led_lots, lambda lots: lots == aim)


def led_each(moves, vector, deed):
    return tuple([moves[one][deed] for one in vector])


def is_deed_row(desk, value):
    """Whether any value is a list of deeds of a desk."""
    if not isinstance(value, list):
        return False
    deeds = desk.deeds
    return all([is_one_of(deed, deeds) for deed in value])


def is_answer(first, second, places, deed, value):
    """Whether any value is a row of newer deeds that answers an elder deed."""
    goal = goal_of(first, second, places, deed)
    if not is_deed_row(second, value):
        return False
    behind = led_vector(second, vector_of(first, second, places), value)
    return lots_along(second, behind) == lots_along(second, goal)


def closed_lot(first, second, places, deed):
    """A closed lot for an elder deed, or None if some row answers it."""
    goal = goal_of(first, second, places, deed)
    moves = desk_moves(second)

    def led_vectors(vector):
        return [led_each(moves, vector, newer) for newer in second.deeds]

    vectors = reached([vector_of(first, second, places)], led_vectors)
    return None if has_alike(second, vectors, goal) else vectors


def has_alike(second, vectors, goal):
    """Whether one of some vectors is alike to a goal."""
    numbers = desk_lots(second)
    aim = [numbers[standing] for standing in goal]
    return any([[numbers[standing] for standing in vector] == aim for vector in vectors])


def is_closed_lot(first, second, places, deed, value):
    """Whether any value is a closed lot for an elder deed."""
    goal = goal_of(first, second, places, deed)
    start = vector_of(first, second, places)
    if not isinstance(value, list) or not all([is_vector(second, one) for one in value]):
        return False
    if not all([len(one) == len(start) for one in value]) or not are_different(value):
        return False
    moves = desk_moves(second)
    behind = [led_each(moves, one, newer) for one in value for newer in second.deeds]
    members = {one: True for one in value}
    if not all([one in members for one in [start] + behind]):
        return False
    return not has_alike(second, value, goal)


def rows_for(first, second, places):
    """The dict from all elder deeds to shortest rows that answer them, or None."""
    rows = {deed: row_for(first, second, places, deed) for deed in first.deeds}
    return None if None in list(rows.values()) else rows


def unanswered(first, second, places):
    """The list of the elder deeds that no row answers."""
    return [deed for deed in first.deeds if row_for(first, second, places, deed) is None]
