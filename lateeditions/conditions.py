"""The instances that a plan asks of a book, and sound plans."""

from lateeditions.bearing import check_many, late_inputs, late_steps
from lateeditions.common import is_one_of
from lateeditions.errors import BadDeed
from lateeditions.machines import (
    CARRY, book_come, check_place, deeds_at, is_deed_at, is_input_row, is_place, led_by,
    place_lots, place_moves,
)
from lateeditions.plans import EVER, check_fence

TWICE = "twice"
SWAP = "swap"
LATE = "late"
DROP = "drop"


def asked_words(plan):
    """The words of the instances that a plan asks, in their sequence."""
    if plan.way != "letter":
        return [CARRY] if plan.stamp or plan.window is not None else [CARRY, TWICE]
    if plan.stamp:
        return [CARRY, DROP]
    return [CARRY, SWAP] if plan.window == EVER else [CARRY, SWAP, LATE]


def asked_at(book, plan, word, place):
    """The list of the instances with this word, but "late", that a plan asks at a place."""
    deeds = deeds_at(book, place[0])
    if word == CARRY and place[0] == book.last:
        return []
    if word == CARRY:
        return [(word, place, deed) for deed in deeds if deed not in plan.fence]
    if word == TWICE:
        return [(word, place, deed) for deed in deeds]
    if word == DROP:
        return [(word, place, one, other) for one in deeds for other in deeds]
    return [
        (word, place, one, other)
        for at, one in enumerate(deeds) for other in deeds[at + 1:]
    ]


def compared(instance):
    """The two rows that an instance compares."""
    word = instance[0]
    deed = instance[2]
    if word == CARRY:
        return ([deed, CARRY], [CARRY, deed])
    if word == TWICE:
        return ([deed, deed], [deed])
    if word == LATE:
        return ([deed, deed] + instance[3], [deed] + instance[3])
    other = instance[3]
    return ([deed, other], [other, deed]) if word == SWAP else ([deed, other], [other])


def fails(moves, lots, instance):
    place = instance[1]
    one, other = [led_by(moves, place, row) for row in compared(instance)]
    return lots[one] != lots[other]


def late_deeds(plan):
    """How many deeds stand in the row of a late instance that a plan asks."""
    return 0 if plan.window is None else plan.window


def failing(book, plan):
    """The list of the failing instances that a plan asks, of the late ones one for each deed."""
    check_fence(book, plan)
    moves = place_moves(book)
    lots = place_lots(book)
    found = []
    for word in asked_words(plan):
        if word == LATE:
            found += failing_late(book, plan, moves)
        else:
            asked = [one for place in book_come(book) for one in asked_at(book, plan, word, place)]
            found += [one for one in asked if fails(moves, lots, one)]
    return found


def failing_late(book, plan, moves):
    many = late_deeds(plan)
    free = late_steps(book, moves, many, False)
    fenced = late_steps(book, moves, many, True)
    found = []
    for place in book_come(book):
        for deed in deeds_at(book, place[0]):
            row = late_inputs(moves, fenced if deed in plan.fence else free, place, deed)
            if row is not None:
                found.append((LATE, place, deed, row))
    return found


def is_failing(book, plan, value):
    """Whether any value is a failing instance that a plan asks."""
    check_fence(book, plan)
    return is_asked(book, plan, value) and fails(place_moves(book), place_lots(book), value)


def is_asked(book, plan, value):
    """Whether any value is an instance that a plan asks."""
    if not isinstance(value, tuple) or not 3 <= len(value) <= 4:
        return False
    word, place, deed = value[:3]
    if not is_one_of(word, asked_words(plan)) or not is_place(book, place):
        return False
    if place not in book_come(book) or not is_deed_at(book, place[0], deed):
        return False
    if word == LATE:
        return len(value) == 4 and is_late_row(book, plan, value)
    if len(value) == 4 and not is_deed_at(book, place[0], value[3]):
        return False
    return value in asked_at(book, plan, word, place)


def is_late_row(book, plan, instance):
    """Whether the last part of a late instance is a row that a plan asks."""
    _, place, deed, row = instance
    if not is_input_row(book, place[0], row):
        return False
    carries = row.count(CARRY)
    if carries > 0 and deed in plan.fence:
        return False
    return len(row) - carries == late_deeds(plan)


def is_sound(book, plan):
    """Whether no instance that a plan asks fails."""
    return len(failing(book, plan)) == 0


def late_row(book, place, deed, many, fenced):
    """A row of inputs with so many deeds for which a late instance fails, or None."""
    check_place(book, place)
    if not is_deed_at(book, place[0], deed):
        raise BadDeed(deed)
    check_many(many)
    moves = place_moves(book)
    return late_inputs(moves, late_steps(book, moves, many, fenced), place, deed)
