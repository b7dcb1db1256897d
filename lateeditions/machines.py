"""Places of a book, the inputs that they take, and places that are alike for good."""

from lateeditions.common import (
    first_met, gathered, is_int, is_one_of, lot_numbers, parting, reached, shortest_rows,
)
from lateeditions.desks import desk_leads
from lateeditions.errors import BadEdition, BadInput, BadPlace

CARRY = "carry"


def check_edition(value, last):
    """Refuses any value that is not the number of an edition up to the last one told."""
    if not is_int(value) or not 0 <= value <= last:
        raise BadEdition(value)


def is_place(book, value):
    if not isinstance(value, tuple) or len(value) != 2:
        return False
    edition, standing = value
    if not is_int(edition) or not 0 <= edition <= book.last:
        return False
    return is_one_of(standing, book.desks[edition].standings)


def check_place(book, value):
    if not is_place(book, value):
        raise BadPlace(value)


def check_places(book, one, other):
    """Refuses any values that are not two places of one edition."""
    check_place(book, one)
    if not is_place(book, other) or one[0] != other[0]:
        raise BadPlace(other)


def inputs(book, edition):
    """The list of the inputs that places of an edition take."""
    check_edition(edition, book.last)
    return inputs_at(book, edition)


def inputs_at(book, edition):
    return deeds_at(book, edition) + ([CARRY] if edition < book.last else [])


def deeds_at(book, edition):
    """The inputs that are deeds of an edition, or of those before."""
    elder = range(edition + 1)
    return [(number, deed) for number in elder for deed in book.desks[number].deeds]


def is_input(book, edition, value):
    """Whether any value is an input that places of an edition take."""
    return is_taken([desk.deeds for desk in book.desks], edition, value)


def is_taken(deeds, edition, value):
    """Whether any value is an input in an edition, when all editions have these names of deeds."""
    if isinstance(value, str):
        return value == CARRY and edition < len(deeds) - 1
    if not isinstance(value, tuple) or len(value) != 2:
        return False
    number, deed = value
    if not is_int(number) or not 0 <= number <= edition:
        return False
    return is_one_of(deed, deeds[number])


def is_deed_at(book, edition, value):
    """Whether any value is a deed that places of an edition take."""
    return isinstance(value, tuple) and is_input(book, edition, value)


def is_input_row(book, edition, value):
    """Whether any value is a list of inputs that places of an edition take, one by one."""
    if not isinstance(value, list):
        return False
    for one in value:
        if not is_input(book, edition, one):
            return False
        if one == CARRY:
            edition += 1
    return True


def deed_leads(book, edition):
    """Where deeds lead in an edition: a dict from inputs, in their sequence, to dicts between its standings."""
    desk = book.desks[edition]
    leads = {(edition, deed): lead for deed, lead in desk_leads(desk).items()}
    for number in reversed(range(edition)):
        change = book.changes[number]
        for deed in change.first.deeds:
            newer = [leads[(number + 1, one)] for one in change.row(deed)]
            leads[(number, deed)] = {one: led_through(newer, one) for one in desk.standings}
    return {one: leads[one] for one in deeds_at(book, edition)}


def led_through(leads, standing):
    for lead in leads:
        standing = lead[standing]
    return standing


def place_moves(book):
    """The dict from places to dicts from the inputs that they take to the places behind."""
    moves = {}
    for edition, desk in enumerate(book.desks):
        leads = deed_leads(book, edition)
        for standing in desk.standings:
            targets = {one: (edition, lead[standing]) for one, lead in leads.items()}
            if edition < book.last:
                targets[CARRY] = (edition + 1, book.changes[edition].carried(standing))
            moves[(edition, standing)] = targets
    return moves


def place_sights(book):
    """The dict from places to the sights that they have at their own desks."""
    return {
        (edition, standing): desk.sight(standing)
        for edition, desk in enumerate(book.desks)
        for standing in desk.standings
    }


def places_along(book, place, row):
    """The list of a place and the places behind each input of a row."""
    moves = place_moves(book)
    places = [place]
    for position, one in enumerate(row):
        if not is_input(book, place[0], one):
            raise BadInput(position)
        place = moves[place][one]
        places.append(place)
    return places


def led(book, place, row):
    """The place behind a row of inputs."""
    check_place(book, place)
    return places_along(book, place, row)[-1]


def led_by(moves, place, row):
    """The place behind a row of inputs that it takes."""
    for one in row:
        place = moves[place][one]
    return place


def book_come(book):
    """The list of the places that can come, by editions and their desks' sequences."""
    return places_come(book, place_moves(book))


def places_come(book, moves):
    """The places that can come, in the sequence of book_come."""
    met = {place: True for place in reached([book.start], lambda place: list(moves[place].values()))}
    return [place for place in moves if place in met]


def come_rows(moves, start):
    """The dict from the places that can come to shortest rows of inputs that lead start there."""
    return shortest_rows(start, lambda place: list(moves[place].items()))


def alike_for_good(book, one, other):
    return parting_inputs(book, one, other) is None


def parting_inputs(book, one, other):
    """A shortest row of inputs behind which something else is seen, or None."""
    check_places(book, one, other)
    return parting(one, other, place_sights(book), place_moves(book))


def place_lots(book):
    """The dict from places to the numbers of their lots of places alike for good.

    The places that can come stand ahead in it.
    """
    moves = place_moves(book)
    return lots_among(book, first_met(places_come(book, moves) + list(moves)), moves)


def lots_among(book, places, moves):
    """The dict from some places, with all to which these lead, to the numbers of their lots."""
    sights = place_sights(book)
    return lot_numbers(places, {place: (place[0], sights[place]) for place in places}, moves)


def book_lots(book):
    """The list of the lists of places that are alike for good."""
    numbers = place_lots(book)
    return gathered(list(numbers), numbers)
