"""Changes put together, books without their middle edition, and the plain change."""

from lateeditions.books import MOST_ROW, Book, Change, all_sights
from lateeditions.errors import BadLink, BadNumber, TooLong


def plain_change(desk):
    """The change of a desk to itself that leaves all as it is."""
    places = {standing: standing for standing in desk.standings}
    rows = {deed: [deed] for deed in desk.deeds}
    return Change(desk, desk, places, rows, {sight: sight for sight in all_sights(desk)})


def joined(first, second):
    """Two changes put together."""
    if first.second != second.first:
        raise BadLink(second)
    elder = first.first
    newer = second.second
    places = {one: second.carried(first.carried(one)) for one in elder.standings}
    rows = {deed: joined_row(first, second, deed) for deed in elder.deeds}
    eyes = {sight: first.eye(second.eye(sight)) for sight in all_sights(newer)}
    return Change(elder, newer, places, rows, eyes)


def joined_row(first, second, deed):
    """The row of two changes put together by which a deed is played."""
    row = [newest for newer in first.row(deed) for newest in second.row(newer)]
    if len(row) > MOST_ROW:
        raise TooLong(deed)
    return row


def without_middle(book):
    """A book of three editions without its edition 1."""
    if len(book.desks) != 3:
        raise BadNumber(1)
    first, _, last = book.desks
    return Book([first, last], [joined(book.changes[0], book.changes[1])])


def joined_table(book, table):
    """The right table of a book without its edition 1 that is left of one of the whole book."""
    without_middle(book)
    return [
        [(edition // 2, standing) for edition, standing in lot]
        for lot in table if lot[0][0] != 1
    ]
