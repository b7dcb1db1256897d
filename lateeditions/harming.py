"""Rows of events that harm, where a plan is not sound."""

from lateeditions.common import shortest_row
from lateeditions.conditions import LATE, TWICE, first_failing, is_failing
from lateeditions.errors import NotFailing
from lateeditions.machines import CARRY, check_place, parting_inputs, place_moves
from lateeditions.shelves import Shelf

KEY = "k"


def way_to(book, place):
    """A shortest row of inputs that leads the start of a book to a place, or None."""
    check_place(book, place)
    moves = place_moves(book)

    def is_there(one):
        return one == place

    return shortest_row(book.start, lambda one: list(moves[one].items()), is_there)


def harm_of(book, plan):
    """A list of events of one key that shows harm, or None."""
    instance = first_failing(book, plan)
    if instance is None:
        return None
    # A late instance stands first only if nothing else fails. Then its deed may change places with
    # the row between, so that what is done again behind this row harms as it does ahead of it.
    events = at_once(way_to(book, instance[1])) + amiss(plan, instance)
    shelf = Shelf(book, plan)
    for event in events:
        shelf.do(event)
    return events + at_once(parting_inputs(book, shelf.place(KEY), shelf.due(KEY)))


def at_once(row):
    """The events of a row of inputs in which each letter is done when it is sent."""
    events = []
    for one in row:
        events += [(CARRY,)] if one == CARRY else [("send", KEY, one), ("work", "done")]
    return events


def amiss(plan, instance):
    """The events by which a deed is done behind a carry, again, late or not at all."""
    word = instance[0]
    sent = [("send", KEY, instance[2])]
    if word == CARRY:
        return sent + [(CARRY,), ("work", "done")]
    if word == TWICE:
        return sent + [("work", "stops"), ("work", "done")]
    shelved = [("work", "fails")] * plan.tries
    if word == LATE:
        return sent + [("work", "stops")] + shelved + at_once(instance[3]) + [("replay", "done")]
    return sent + shelved + at_once([instance[3]]) + [("replay", "done")]


def harm_from(book, plan, instance):
    """A list of events that shows harm, where an instance fails; it may harm by another one."""
    if not is_failing(book, plan, instance):
        raise NotFailing(instance)
    return harm_of(book, plan)
