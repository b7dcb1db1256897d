"""Whether chains can come to harm, and with which ways they can not."""

from lateeditions.books import Book
from lateeditions.conditions import Ground, is_sound_on
from lateeditions.harming import harm_of
from lateeditions.plans import WAYS, Plan
from lateeditions.rowsofdesks import loosest_of, with_way


def weak_seats(chain):
    """The ascending list of the seats at which a chain can come to harm."""
    return [seat for seat in range(len(chain)) if is_weak(seat_ground(chain, seat), chain.alone(seat)[1])]


def seat_ground(chain, seat):
    """What plans stand on for the desk of a seat alone."""
    return Ground(Book([chain.desks[seat]], []))


def is_weak(ground, plan):
    """Whether a desk alone can come to harm with a plan."""
    return not is_sound_on(ground, plan)


def harm(chain):
    """A list of events of one key that harms a chain, or None."""
    for seat in range(len(chain)):
        events = harm_at(chain, seat)
        if events is not None:
            return events
    return None


def harm_at(chain, seat):
    """A list of events of one key that harms a chain at a seat, or None."""
    desk, plan = chain.alone(seat)
    # The letters are taken amiss at the seat that has the loosest way, and go on from there to the
    # told seat as they were taken; each letter lies there as often as the tries of that seat ask.
    loose = loose_seat(chain, seat)
    tries = chain.plans[loose].tries
    events = harm_of(Book([desk], []), Plan(plan.way, tries=tries, window=plan.window, stamp=plan.stamp))
    return None if events is None else handed_on(events, loose, len(chain))


def loose_seat(chain, seat):
    """The last seat up to a seat that has the loosest way up to it."""
    ways = [plan.way for plan in chain.plans[:seat + 1]]
    return max([at for at, way in enumerate(ways) if way == chain.loosest(seat)])


def handed_on(events, loose, many):
    """The events of a desk alone as such of a seat of a chain, with all that other seats do at once."""
    told = []
    for event in events:
        if event[0] == "send":
            told += [("send", event[1], event[2][1])] + done_at(list(range(loose)))
        else:
            told += [(event[0], loose, event[1])]
            told += [] if event[1] == "fails" else done_at(list(range(loose + 1, many)))
    return told


def done_at(seats):
    return [("work", seat, "done") for seat in seats]


def ways_enough(chain):
    """The ascending list of the tuples of ways with which a chain can not come to harm."""
    rows = [()]
    for seat, plan in enumerate(chain.plans):
        ground = seat_ground(chain, seat)
        weak = [way for way in WAYS if is_weak(ground, with_way(plan, way))]
        longer = [row + (way,) for row in rows for way in sorted(WAYS)]
        rows = [row for row in longer if loosest_of(row) not in weak]
    return rows


def loosest_enough(chain):
    """The ascending list of those of which no single way can be made looser."""
    enough = {row: True for row in ways_enough(chain)}
    return [row for row in enough if not any([looser in enough for looser in looser_rows(row)])]


def looser_rows(row):
    """The tuples of ways with one way one step looser."""
    return [
        row[:at] + (WAYS[WAYS.index(way) - 1],) + row[at + 1:]
        for at, way in enumerate(row) if way != WAYS[0]
    ]
