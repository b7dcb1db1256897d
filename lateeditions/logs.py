"""Logs of houses, right ones and others."""

from lateeditions.errors import BadLog
from lateeditions.houses import House


def is_log(book, plan, value):
    """Whether any value is a right log."""
    return first_fault(book, plan, value) is None


def first_fault(book, plan, value):
    """The position of the first entry of any value that is not right, or None."""
    return led_through(House(book, plan), value)


def house_of(book, plan, log):
    """A house on which the events of a log happened."""
    house = House(book, plan)
    position = led_through(house, log)
    if position is not None:
        raise BadLog(position)
    return house


def led_through(house, value):
    """Lets the events of a log happen, up to the first entry that is not right: its position, or None."""
    if not isinstance(value, list):
        return 0
    for position, entry in enumerate(value):
        if not happens(house, entry):
            return position
    return None


def happens(house, entry):
    """Whether an entry, any value, is right in a house; its event, if possible, has happened then."""
    if not isinstance(entry, tuple) or len(entry) != 2:
        return False
    event, account = entry
    return house.can(event) and is_same(house.do(event), account)


def is_same(account, value):
    """Whether any value is the very account, of the same kinds."""
    if not isinstance(value, tuple) or len(value) != len(account):
        return False
    return all([is_same_part(one, other) for one, other in zip(account, value)])


def is_same_part(one, other):
    """Whether any value is the same string, integer or bool: True is not 1."""
    if not isinstance(other, (int, str)) or isinstance(one, bool) != isinstance(other, bool):
        return False
    return one == other
