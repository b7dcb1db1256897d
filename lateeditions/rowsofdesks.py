"""Chains: desks that hand letters on from seat to seat."""

from lateeditions.common import is_int
from lateeditions.desks import Desk
from lateeditions.errors import BadChain, BadPlans, BadSeat
from lateeditions.plans import WAYS, Plan

MOST_SEATS = 4


class Chain:
    """A chain of desks with the same deeds, and a plan for each of them."""

    def __init__(self, desks, plans):
        if not are_chained(desks):
            raise BadChain(desks)
        if not are_unfenced(plans, len(desks)):
            raise BadPlans(plans)
        self._desks = list(desks)
        self._plans = list(plans)

    @property
    def desks(self):
        return list(self._desks)

    @property
    def plans(self):
        return list(self._plans)

    def __len__(self):
        return len(self._desks)

    def __eq__(self, other):
        if not isinstance(other, Chain):
            return False
        return self._desks == other._desks and self._plans == other._plans

    def loosest(self, seat):
        """The loosest way up to a seat."""
        check_seat(self, seat)
        return loosest_of([plan.way for plan in self._plans[:seat + 1]])

    def alone(self, seat):
        """The desk of a seat, and the plan with which it stands alone."""
        check_seat(self, seat)
        return (self._desks[seat], with_way(self._plans[seat], self.loosest(seat)))

    def part(self, first, last):
        """The chain of the seats from first to last."""
        check_seat(self, first)
        check_seat(self, last)
        if last < first:
            raise BadSeat(last)
        return Chain(self._desks[first:last + 1], self._plans[first:last + 1])


def are_chained(value):
    """Whether any value is a list of desks for a chain."""
    if not isinstance(value, list) or not 1 <= len(value) <= MOST_SEATS:
        return False
    if not all([isinstance(desk, Desk) for desk in value]):
        return False
    return all([desk.deeds == value[0].deeds for desk in value])


def are_unfenced(value, many):
    """Whether any value is a list of so many plans without fences."""
    if not isinstance(value, list) or len(value) != many:
        return False
    return all([isinstance(plan, Plan) and plan.fence == () for plan in value])


def check_seat(chain, value):
    """Refuses any value that is not a seat of a chain."""
    if not is_int(value) or not 0 <= value < len(chain):
        raise BadSeat(value)


def loosest_of(ways):
    return [way for way in WAYS if way in ways][0]


def with_way(plan, way):
    """A plan without a fence like another one, but with this way."""
    return Plan(way, tries=plan.tries, window=plan.window, stamp=plan.stamp)


def behind(one, other):
    """The chain of the seats of one, and then those of the other one."""
    return Chain(one.desks + other.desks, one.plans + other.plans)
