"""What deeds bear: carries behind them, other sequences, being done again."""

from lateeditions.common import is_int, lot_moves, parting
from lateeditions.errors import BadDeed, BadNumber
from lateeditions.machines import (
    CARRY, check_edition, come_rows, is_deed_at, led_by, place_lots, place_moves, place_sights,
)

MOST_BETWEEN = 12


def check_deed(book, edition, value):
    """Refuses any value that is no deed of a book up to an edition."""
    if not is_deed_at(book, edition, value):
        raise BadDeed(value)


def check_many(value):
    if not is_int(value) or not 0 <= value <= MOST_BETWEEN:
        raise BadNumber(value)


def passes_carry(book, edition, deed):
    """None, or rows (u, w) that show that a deed does not pass the carry."""
    check_edition(edition, book.last - 1)
    check_deed(book, edition, deed)
    return parted_behind(book, edition, [deed, CARRY], [CARRY, deed])


def change_places(book, edition, first, second):
    """None, or rows (u, w) that show that two deeds do not change places."""
    check_edition(edition, book.last)
    check_deed(book, edition, first)
    check_deed(book, edition, second)
    return parted_behind(book, edition, [first, second], [second, first])


def made_up_for(book, edition, first, second):
    """None, or rows (u, w) that show that the first deed is not made up for by the second."""
    check_edition(edition, book.last)
    check_deed(book, edition, first)
    check_deed(book, edition, second)
    return parted_behind(book, edition, [first, second], [second])


def parted_behind(book, edition, one, other):
    """The rows (u, w): a place of an edition, and what parts it behind two rows; or None."""
    moves = place_moves(book)
    sights = place_sights(book)
    for place, row in rows_into(book, moves, edition):
        more = parting(led_by(moves, place, one), led_by(moves, place, other), sights, moves)
        if more is not None:
            return (row, more)
    return None


def rows_into(book, moves, edition):
    """The pairs of the places of an edition that can come and rows that lead the start there."""
    rows = come_rows(moves, book.start)
    return [(place, row) for place, row in rows.items() if place[0] == edition]


def bears_between(book, edition, deed, many, fenced):
    """None, or rows (u, v, w) that show that a deed does not bear so many between."""
    check_edition(edition, book.last)
    check_deed(book, edition, deed)
    check_many(many)
    moves = place_moves(book)
    lots = place_lots(book)
    behind = lot_moves(lots, moves)
    steps = late_steps(lots, behind, many, fenced)
    for place, row in rows_into(book, moves, edition):
        between = late_inputs(behind, steps, lots[place], deed)
        if between is not None:
            one = led_by(moves, place, [deed, deed] + between)
            other = led_by(moves, place, [deed] + between)
            return (row, between, parting(one, other, place_sights(book), moves))
    return None


def late_steps(lots, behind, many, fenced):
    """For each number of deeds, from 0 to many, a dict from pairs of different lots to inputs.

    It has the pairs of lots of one edition that a row with so many deeds, and with carries unless
    these are fenced, leads to different lots, and the first input of such a row (None for the row
    without inputs).
    """
    editions = {lot: place[0] for place, lot in lots.items()}
    pairs = [(one, other) for one in behind for other in behind if one != other and editions[one] == editions[other]]
    # Pairs of newer editions come first: a carry leads to one of them with as many deeds left.
    pairs = sorted(pairs, key=lambda pair: -editions[pair[0]])
    steps = [{pair: None for pair in pairs}]
    for _ in range(many):
        # Once no pair has gone, none goes any more.
        is_last = len(steps) > 1 and len(steps[-1]) == len(steps[-2])
        steps.append(steps[-1] if is_last else steps_ahead(behind, steps[-1], fenced))
    return steps


def steps_ahead(behind, fewer, fenced):
    """The dict of late_steps for one deed more than the dict fewer, which has all its pairs, is for."""
    more = {}
    for one, other in fewer:
        for label, target in behind[one].items():
            pair = (target, behind[other][label])
            if label != CARRY and pair in fewer or label == CARRY and not fenced and pair in more:
                more[(one, other)] = label
    return more


def late_inputs(behind, steps, lot, deed):
    """The row between a deed and its repeat that late_steps tells of a lot, or None."""
    once = behind[lot][deed]
    pair = (behind[once][deed], once)
    left = len(steps) - 1
    if pair not in steps[left]:
        return None
    row = []
    while steps[left][pair] is not None:
        label = steps[left][pair]
        row.append(label)
        pair = (behind[pair[0]][label], behind[pair[1]][label])
        if label != CARRY:
            left -= 1
    return row
