"""Changes between desks, and books of editions."""

from lateeditions.common import first_met, is_one_of, is_table
from lateeditions.desks import Desk
from lateeditions.errors import (
    BadChanges, BadDeed, BadDesks, BadEyes, BadPlaces, BadRows, BadSight, BadStanding,
)

MOST_ROW = 16
MOST_DESKS = 3


class Change:
    """A change from the desk first to the desk second."""

    def __init__(self, first, second, places, rows, eyes):
        if not are_places(first, second, places):
            raise BadPlaces(places)
        if not are_rows(first, second, rows):
            raise BadRows(rows)
        if not are_eyes(first, second, eyes):
            raise BadEyes(eyes)
        self._first = first
        self._second = second
        self._places = {standing: places[standing] for standing in first.standings}
        self._rows = {deed: tuple(rows[deed]) for deed in first.deeds}
        self._eyes = {sight: eyes[sight] for sight in all_sights(second)}

    @property
    def first(self):
        return self._first

    @property
    def second(self):
        return self._second

    def carried(self, standing):
        """The standing of second to which one of first is carried."""
        if not is_one_of(standing, self._places):
            raise BadStanding(standing)
        return self._places[standing]

    def row(self, deed):
        """The list of the deeds of second by which a deed of first is played."""
        if not is_one_of(deed, self._rows):
            raise BadDeed(deed)
        return list(self._rows[deed])

    def eye(self, sight):
        """The sight of first as which elder eyes see one of second."""
        if not is_one_of(sight, self._eyes):
            raise BadSight(sight)
        return self._eyes[sight]

    def __eq__(self, other):
        if not isinstance(other, Change):
            return False
        if self._first != other._first or self._second != other._second:
            return False
        if self._places != other._places or self._rows != other._rows:
            return False
        return self._eyes == other._eyes


def all_sights(desk):
    """The different sights that the standings of a desk have."""
    return first_met([desk.sight(standing) for standing in desk.standings])


def are_places(first, second, value):
    if not is_table(value, first.standings):
        return False
    return all([is_one_of(target, second.standings) for target in value.values()])


def are_rows(first, second, value):
    if not is_table(value, first.deeds):
        return False
    return all([is_change_row(row, second.deeds) for row in value.values()])


def is_change_row(value, deeds):
    """Whether any value is a list or tuple of not too many of these deeds."""
    if not isinstance(value, (list, tuple)) or len(value) > MOST_ROW:
        return False
    return all([is_one_of(deed, deeds) for deed in value])


def are_eyes(first, second, value):
    if not is_table(value, all_sights(second)):
        return False
    elder = all_sights(first)
    return all([is_one_of(sight, elder) for sight in value.values()])


class Book:
    """A book of editions: desks, and changes between neighbours."""

    def __init__(self, desks, changes):
        if not are_desks(desks):
            raise BadDesks(desks)
        if not are_changes(desks, changes):
            raise BadChanges(changes)
        self._desks = tuple(desks)
        self._changes = tuple(changes)
        self._last = len(desks) - 1
        self._start = (0, desks[0].start)

    @property
    def desks(self):
        return self._desks

    @property
    def changes(self):
        return self._changes

    @property
    def last(self):
        return self._last

    @property
    def start(self):
        return self._start

    def __eq__(self, other):
        if not isinstance(other, Book):
            return False
        return self._desks == other._desks and self._changes == other._changes


def are_desks(value):
    if not isinstance(value, (list, tuple)) or not 1 <= len(value) <= MOST_DESKS:
        return False
    return all([isinstance(desk, Desk) for desk in value])


def are_changes(desks, value):
    """Whether any value is a list or tuple of the changes that these desks need."""
    if not isinstance(value, (list, tuple)) or len(value) != len(desks) - 1:
        return False
    return all([is_change_of(desks, number, change) for number, change in enumerate(value)])


def is_change_of(desks, number, value):
    """Whether any value is a change from the desk of this number to the next one."""
    if not isinstance(value, Change):
        return False
    return value.first == desks[number] and value.second == desks[number + 1]
