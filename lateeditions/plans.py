"""Plans: how letters are taken, guarded and fenced."""

from lateeditions.common import is_int, is_name, is_one_of
from lateeditions.errors import BadFence, BadPlan
from lateeditions.machines import is_deed_at

WAYS = ("letter", "key", "all")
MOST_TRIES = 3
MOST_WINDOW = 12
EVER = "ever"


class Plan:
    """A plan, as it is handed in: nothing changes it later."""

    def __init__(self, way, *, tries=1, window=None, stamp=False, fence=()):
        if not is_one_of(way, WAYS):
            raise BadPlan(way)
        if not is_count(tries, MOST_TRIES):
            raise BadPlan(tries)
        if not is_window(window):
            raise BadPlan(window)
        if not isinstance(stamp, bool):
            raise BadPlan(stamp)
        if not are_fenced(fence):
            raise BadPlan(fence)
        self._way = way
        self._tries = tries
        self._window = window
        self._stamp = stamp
        self._fence = tuple(fence)

    @property
    def way(self):
        return self._way

    @property
    def tries(self):
        return self._tries

    @property
    def window(self):
        return self._window

    @property
    def stamp(self):
        return self._stamp

    @property
    def fence(self):
        return self._fence

    def __eq__(self, other):
        if not isinstance(other, Plan):
            return False
        if self._way != other._way or self._tries != other._tries:
            return False
        if self._window != other._window or self._stamp != other._stamp:
            return False
        return self._fence == other._fence


def is_count(value, most):
    return is_int(value) and 1 <= value <= most


def is_window(value):
    return value is None or is_count(value, MOST_WINDOW) or is_one_of(value, (EVER,))


def are_fenced(value):
    """Whether any value is a tuple or list of different deeds, ascending."""
    if not isinstance(value, (list, tuple)) or not all([is_deed_name(deed) for deed in value]):
        return False
    return all([one < other for one, other in zip(value, value[1:])])


def is_deed_name(value):
    """Whether any value is a tuple of an integer from 0 on and a name."""
    if not isinstance(value, tuple) or len(value) != 2:
        return False
    return is_int(value[0]) and value[0] >= 0 and is_name(value[1])


def is_fence(book, plan):
    """Whether all deeds of a plan's fence are deeds of a book."""
    return all([is_deed_at(book, book.last, deed) for deed in plan.fence])


def check_fence(book, plan):
    """Refuses the first deed of a plan's fence that is none of a book's."""
    for deed in plan.fence:
        if not is_deed_at(book, book.last, deed):
            raise BadFence(deed)
