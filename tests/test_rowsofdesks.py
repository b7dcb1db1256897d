import unittest

from lateeditions.desks import Desk
from lateeditions.errors import BadChain, BadPlans, BadSeat
from lateeditions.plans import Plan
from lateeditions.rowsofdesks import Chain, behind
from chains import WAYS, bell, chain_plan, counter, made_chain
from support import any_values, dim, lamp, refused, same_but, three

PLANS = [Plan("all"), Plan("key", window=2), Plan("all", stamp=True), Plan("letter", tries=3)]


def turned():
    """The lamp with its deeds in the other sequence."""
    return Desk(
        ["off", "on"], {"cut": {"off": "off", "on": "off"}, "press": {"off": "on", "on": "off"}}, {"off": "dark", "on": "light"},
    )


class ChainTest(unittest.TestCase):
    def test_one_to_four_seats(self):
        desks = [lamp(), bell(), counter(4), lamp()]
        for many in range(1, 5):
            chain = Chain(plans=PLANS[:many], desks=desks[:many])
            self.assertEqual([len(chain), chain.desks, chain.plans], [many, desks[:many], PLANS[:many]])
            self.assertIsInstance(chain.desks, list)
            self.assertIsInstance(chain.plans, list)
        refused(self, BadChain, (value := desks + [bell()]), Chain, value, PLANS + [Plan("key")])
        refused(self, BadChain, (value := []), Chain, value, [])

    def test_bad_chains(self):
        for value in any_values() + [
            (lamp(),), [lamp(), three()], [lamp(), dim()], [lamp(), turned()], [turned(), lamp()], [lamp(), None], [lamp(), [lamp()]],
            [lamp()] * 5, [None, lamp()], [lamp(), bell(), turned()], {0: lamp()}, lamp(), [lamp().deeds], [Plan("key")], "lamp",
        ]:
            if value != [lamp()]:
                refused(self, BadChain, value, Chain, value, [Plan("key")])
                refused(self, BadChain, value, Chain, value, None)
        self.assertEqual(len(Chain([turned(), turned()], PLANS[:2])), 2)

    def test_bad_plans(self):
        for value in any_values() + [
            [Plan("key")], [Plan("key")] * 3, (Plan("key"), Plan("key")), [Plan("key"), None], [Plan("key"), "key"], Plan("key"),
            [Plan("key"), Plan("key", fence=[(0, "press")])], [Plan("key", fence=[(0, "press")]), Plan("key")], ["key", "key"],
            [Plan("key", fence=[(7, "x")]), Plan("key")], [lamp(), lamp()], {0: Plan("key"), 1: Plan("key")},
        ]:
            refused(self, BadPlans, value, Chain, [lamp(), bell()], value)

    def test_lists_are_copied_and_new(self):
        desks, plans = [lamp(), bell()], PLANS[:2]
        chain = Chain(desks, plans)
        desks.append(lamp())
        plans.clear()
        chain.desks.clear()
        chain.plans.append(None)
        self.assertEqual([len(chain), chain.desks, chain.plans], [2, [lamp(), bell()], PLANS[:2]])

    def test_equal(self):
        chain = Chain([lamp(), bell()], PLANS[:2])
        self.assertIs(chain == Chain([lamp(), bell()], [Plan("all"), Plan("key", window=2)]), True)
        self.assertIs(chain != Chain([lamp(), bell()], PLANS[:2]), False)
        for other in [
            Chain([bell(), lamp()], PLANS[:2]), Chain([lamp(), bell()], PLANS[:2][::-1]), Chain([lamp()], PLANS[:1]),
            Chain([lamp(), bell(), bell()], PLANS[:3]), Chain([lamp(), bell()], [Plan("all", tries=2), Plan("key", window=2)]),
        ] + any_values() + [[lamp(), bell()], PLANS[:2]]:
            self.assertIs(chain == other, False)
            self.assertIs(chain != other, True)

    def test_each_loosest_way(self):
        met = {way: 0 for way in WAYS}
        for ways in [[a, b, c, d] for a in WAYS for b in WAYS for c in WAYS for d in WAYS]:
            chain = Chain([lamp()] * 4, [same_but(plan, way=way) for plan, way in zip(PLANS, ways)])
            for seat in range(4):
                upto = ways[:seat + 1]
                expected = "letter" if "letter" in upto else "key" if "key" in upto else "all"
                self.assertEqual(chain.loosest(seat=seat), expected)
                desk, plan = chain.alone(seat=seat)
                self.assertEqual([desk, plan], [lamp(), same_but(PLANS[seat], way=expected)])
                met[expected] += 1
        self.assertEqual(sum(met.values()), 4 * 81)
        self.assertIsInstance(Chain([lamp()], PLANS[:1]).alone(0), tuple)

    def test_bad_seats(self):
        for many in (1, 3):
            chain = Chain([lamp()] * many, PLANS[:many])
            for value in any_values() + [many, -many, -1, "0", 0.0, (0,), True, False]:
                if value.__class__ is not int or not 0 <= value < many:
                    for call in (chain.loosest, chain.alone, lambda seat: chain.part(seat, 0), lambda seat: chain.part(0, seat)):
                        refused(self, BadSeat, value, call, value)

    def test_parts(self):
        chain = Chain([lamp(), bell(), counter(3), lamp()], PLANS)
        for first in range(4):
            for last in range(4):
                if last < first:
                    refused(self, BadSeat, last, chain.part, first, last)
                else:
                    part = chain.part(last=last, first=first)
                    self.assertEqual([part.desks, part.plans], [chain.desks[first:last + 1], chain.plans[first:last + 1]])
        for one in (-1, 4, True, None):
            for other in (9, False, "x", -2):
                refused(self, BadSeat, one, chain.part, one, other)
        refused(self, BadSeat, 7, chain.part, 3, 7)

    def test_behind(self):
        for seed in range(40):
            one, other = made_chain(2 * seed), made_chain(2 * seed + 2)
            if len(one) + len(other) > 4:
                with self.assertRaises(BadChain) as caught:
                    behind(one, other)
                self.assertEqual(caught.exception.value, one.desks + other.desks)
            else:
                both = behind(other=other, one=one)
                self.assertEqual([both.desks, both.plans], [one.desks + other.desks, one.plans + other.plans])
                self.assertEqual([both.part(0, len(one) - 1), both.part(len(one), len(both) - 1)], [one, other])
        with self.assertRaises(BadChain) as caught:
            behind(Chain([lamp()], PLANS[:1]), Chain([turned()], PLANS[:1]))
        self.assertEqual(caught.exception.value, [lamp(), turned()])


if __name__ == "__main__":
    unittest.main()
