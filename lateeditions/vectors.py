"""Maps from a desk to another one, their vectors, and the goals of deeds."""

from lateeditions.books import are_places
from lateeditions.common import is_one_of
from lateeditions.errors import BadDeed, BadMap, BadRow, BadVector
from lateeditions.likeness import desk_lots


def check_map(first, second, value):
    if not are_places(first, second, value):
        raise BadMap(value)


def check_deed(first, value):
    if not is_one_of(value, first.deeds):
        raise BadDeed(value)


def vector_of(first, second, places):
    """The newer standings of the elder standings that can come."""
    check_map(first, second, places)
    return tuple([places[standing] for standing in first.come()])


def goal_of(first, second, places, deed):
    """The newer standings of those to which a deed leads the elder ones that can come."""
    check_map(first, second, places)
    check_deed(first, deed)
    return tuple([places[first.lead(standing, [deed])] for standing in first.come()])


def is_vector(second, value):
    """Whether any value is a tuple of standings of a desk."""
    if not isinstance(value, tuple):
        return False
    standings = second.standings
    return all([is_one_of(standing, standings) for standing in value])


def led_vector(second, vector, row):
    """The vector to which a row of deeds leads one."""
    if not is_vector(second, vector):
        raise BadVector(vector)
    check_row(second, row)
    return tuple([second.lead(standing, row) for standing in vector])


def check_row(second, row):
    """Refuses a row with an entry that is no deed, for vectors without standings, too."""
    if not isinstance(row, list):
        raise BadRow(0)
    for position, deed in enumerate(row):
        if not is_one_of(deed, second.deeds):
            raise BadRow(position)


def vectors_alike(second, one, other):
    """Whether two vectors have alike standings, place by place."""
    if not is_vector(second, one):
        raise BadVector(one)
    if not is_vector(second, other) or len(other) != len(one):
        raise BadVector(other)
    return lots_along(second, one) == lots_along(second, other)


def lots_along(second, vector):
    """The numbers of the lots of alike standings in which those of a vector stand."""
    numbers = desk_lots(second)
    return [numbers[standing] for standing in vector]
