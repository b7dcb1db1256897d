"""Changes that are right, and breaks that show where one is not."""

from lateeditions.common import is_int, parting, shortest_row
from lateeditions.errors import BadNumber
from lateeditions.eyes import sight_by
from lateeditions.machines import (
    CARRY, book_come, come_rows, deeds_at, is_deed_at, is_input_row, led_by, place_lots,
    place_moves, place_sights,
)


def check_number(book, value):
    """Refuses any value that is not the number of a change of a book."""
    if not is_int(value) or not 0 <= value < book.last:
        raise BadNumber(value)


def elder_deeds(book, number):
    """The list of the elder deeds at a change, as inputs."""
    check_number(book, number)
    return deeds_at(book, number)


def both_ways(moves, place, deed):
    """The pair of places behind a deed and a carry, and behind a carry and the deed."""
    return (led_by(moves, place, [deed, CARRY]), led_by(moves, place, [CARRY, deed]))


def keeps_deeds(book, number):
    """Whether each elder deed changes places with a change, at all places that can come."""
    check_number(book, number)
    moves = place_moves(book)
    lots = place_lots(book)
    pairs = [
        both_ways(moves, place, deed)
        for place in book_come(book) if place[0] == number
        for deed in deeds_at(book, number)
    ]
    return all([lots[one] == lots[other] for one, other in pairs])


def keeps_eyes(book, number):
    """Whether elder eyes see the same ahead of a change and behind it."""
    return eyes_break(book, number) is None


def is_right(book):
    return len(right_changes(book)) == book.last


def right_changes(book):
    """The list of the numbers of the changes that are right."""
    return [
        number for number in range(book.last)
        if keeps_deeds(book, number) and keeps_eyes(book, number)
    ]


def deed_break(book, number):
    """A least deed break of a change, or None."""
    check_number(book, number)
    moves = place_moves(book)
    lots = place_lots(book)
    sights = place_sights(book)
    rows = come_rows(moves, book.start)
    breaks = []
    for place in [met for met in rows if met[0] == number]:
        for deed in deeds_at(book, number):
            one, other = both_ways(moves, place, deed)
            if lots[one] != lots[other]:
                breaks.append((rows[place], deed, parting(one, other, sights, moves)))
    return min(breaks, key=lambda told: len(told[0]) + len(told[2]), default=None)


def eyes_break(book, number):
    """A least eyes break of a change, or None."""
    check_number(book, number)
    moves = place_moves(book)

    def is_seen_otherwise(place):
        return place[0] == number and eyes_differ(book, moves, place)

    return shortest_row(book.start, lambda place: list(moves[place].items()), is_seen_otherwise)


def eyes_differ(book, moves, place):
    """Whether the eyes of a place's own edition see something else behind "carry"."""
    edition = place[0]
    return sight_by(book, place, edition) != sight_by(book, moves[place][CARRY], edition)


def is_row_to(book, number, value):
    """Whether any value is a list of inputs that leads the start to a place of an edition."""
    return is_input_row(book, 0, value) and value.count(CARRY) == number


def is_deed_break(book, number, value):
    """Whether any value is a deed break of a change."""
    check_number(book, number)
    if not isinstance(value, tuple) or len(value) != 3:
        return False
    row, deed, more = value
    if not is_row_to(book, number, row) or not is_deed_at(book, number, deed):
        return False
    if not is_input_row(book, number + 1, more):
        return False
    moves = place_moves(book)
    sights = place_sights(book)
    one, other = both_ways(moves, led_by(moves, book.start, row), deed)
    return sights[led_by(moves, one, more)] != sights[led_by(moves, other, more)]


def is_eyes_break(book, number, value):
    """Whether any value is an eyes break of a change."""
    check_number(book, number)
    if not is_row_to(book, number, value):
        return False
    moves = place_moves(book)
    return eyes_differ(book, moves, led_by(moves, book.start, value))
