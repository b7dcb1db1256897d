"""What the eyes of an edition see at places."""

from lateeditions.machines import check_edition, check_place, places_along


def sight_by(book, place, edition):
    """The sight of a place, led back change by change to an edition."""
    number, standing = place
    sight = book.desks[number].sight(standing)
    for change in reversed(book.changes[edition:number]):
        sight = change.eye(sight)
    return sight


def seen(book, place, edition):
    """The sight that the eyes of an edition see at a place."""
    check_place(book, place)
    check_edition(edition, place[0])
    return sight_by(book, place, edition)


def seen_along(book, place, row, edition):
    """The list of the sights that they see at a place and behind each input of a row."""
    check_place(book, place)
    check_edition(edition, place[0])
    return [sight_by(book, one, edition) for one in places_along(book, place, row)]
