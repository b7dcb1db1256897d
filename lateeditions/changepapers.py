"""Right tables, which show that a book is right, and the breaks of books that are not."""

from lateeditions.changes import both_ways, deed_break, eyes_break, eyes_differ, is_right
from lateeditions.common import are_different, gathered
from lateeditions.eyes import sight_by
from lateeditions.machines import book_come, deeds_at, is_place, place_lots, place_moves


def right_table(book):
    """The table of the places that can come, by lots of those alike for good, or None."""
    if not is_right(book):
        return None
    return gathered(book_come(book), place_lots(book))


def is_right_table(book, value):
    """Whether any value is a right table of a book."""
    return first_wrong(book, value) is None


def first_wrong(book, value):
    """What is first wrong of any value as a right table of a book, or None."""
    if not has_form(book, value):
        return ("form",)
    lots = {place: number for number, lot in enumerate(value) for place in lot}
    if book.start not in lots:
        return ("start",)
    moves = place_moves(book)
    for lot in value:
        for place in lot:
            wrong = (
                wrong_sight(book, lot[0], place) or wrong_input(moves, lots, lot[0], place)
                or wrong_carry(book, moves, lots, place)
            )
            if wrong is not None:
                return wrong
    return None


def has_form(book, value):
    """Whether any value is a list of lists of places, none empty, no place twice."""
    if not isinstance(value, list):
        return False
    if not all([isinstance(lot, list) and len(lot) > 0 for lot in value]):
        return False
    entries = [entry for lot in value for entry in lot]
    return all([is_place(book, entry) for entry in entries]) and are_different(entries)


def wrong_sight(book, first, place):
    if place[0] == first[0] and sight_by(book, place, place[0]) == sight_by(book, first, place[0]):
        return None
    return ("sight", place)


def wrong_input(moves, lots, first, place):
    """The first input that leads a place not to where the first place of its lot is led."""
    for one, target in moves[place].items():
        if not stand_in_one(lots, target, moves[first][one]):
            return ("input", place, one)
    return None


def stand_in_one(lots, one, other):
    """Whether two places stand in one lot of a table."""
    return one in lots and other in lots and lots[one] == lots[other]


def wrong_carry(book, moves, lots, place):
    """What is wrong of a place if it is carried: an elder deed, or what its eyes see."""
    if place[0] == book.last:
        return None
    for deed in deeds_at(book, place[0]):
        one, other = both_ways(moves, place, deed)
        if not stand_in_one(lots, one, other):
            return ("deed", place, deed)
    return ("eyes", place) if eyes_differ(book, moves, place) else None


def break_of(book):
    """The tuple (number, word, break) of the first change that is not right, or None."""
    for number in range(book.last):
        for word, found in (("deed", deed_break(book, number)), ("eyes", eyes_break(book, number))):
            if found is not None:
                return (number, word, found)
    return None
