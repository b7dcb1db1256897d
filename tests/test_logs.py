import random
import unittest

from lateeditions.errors import BadFence, BadLog
from lateeditions.houses import House
from lateeditions.logs import first_fault, house_of, is_log
from lateeditions.plans import Plan
from plainly import is_form
from support import (
    Model, any_values, check_bad_fences, lamp_book, made_book, made_plan, random_events, refused, right_book, ring,
    same_but, variants,
)

PRESS, CUT = (0, "press"), (0, "cut")


def made_logs(many, length=12):
    for seed in range(many):
        pick = random.Random(seed)
        book = made_book(seed, 1 + seed % 3) if seed % 2 else right_book(seed, 1 + seed % 3)
        plan = made_plan(pick, book)
        house = House(book, plan)
        for event in random_events(pick, book, plan, length).events:
            house.do(event)
        yield pick, book, plan, house.log()


def same(one, other):
    """Whether two values are the same, of the same kinds throughout."""
    if one.__class__ is not other.__class__:
        return False
    if isinstance(one, (tuple, list)):
        return len(one) == len(other) and all(same(*pair) for pair in zip(one, other))
    return one == other


def plain_fault(book, plan, value):
    """The position of the first entry that is not right, by a model of the shelf."""
    if value.__class__ is not list:
        return 0
    model = Model(book, plan)
    for position, entry in enumerate(value):
        if entry.__class__ is not tuple or len(entry) != 2:
            return position
        event, account = entry
        if not is_form(book, event) or not model.can(event) or not same(model.do(event), account):
            return position
    return None


class LogsTest(unittest.TestCase):
    def check(self, book, plan, value):
        expected = plain_fault(book, plan, value)
        self.assertEqual(first_fault(book, plan, value), expected, value)
        self.assertIs(is_log(book, plan, value), expected is None)
        if expected is None:
            house = house_of(book, plan, value)
            self.assertIsInstance(house, House)
            self.assertEqual([house.log(), house.events, house.marks], [value, [event for event, _ in value], []])
        else:
            refused(self, BadLog, expected, house_of, book, plan, value)
        return expected is None

    def test_right_logs(self):
        for _, book, plan, log in made_logs(60):
            self.assertTrue(self.check(book, plan, log))
            for k in range(0, 12, 3):
                self.assertTrue(self.check(book, plan, log[:k]))

    def test_entries_changed_at_any_depth(self):
        met = []
        for _, book, plan, log in made_logs(24, 7):
            for k in range(0, 7, 2):
                for entry in variants(log[k]):
                    met.append(self.check(book, plan, log[:k] + [entry] + log[k + 1:]))
        self.assertGreater(met.count(False), 1000)

    def test_cut_and_put_together(self):
        met = []
        for pick, book, plan, log in made_logs(40):
            for _ in range(12):
                one, other = sorted([pick.randint(0, 12), pick.randint(0, 12)])
                for value in [log[one:], log[:one] + log[other:], log + log[one:other], log[other:] + log[:one], log[::-1]]:
                    met.append(self.check(book, plan, value))
        self.assertGreater(min(met.count(True), met.count(False)), 100)

    def test_kinds(self):
        book, plan = lamp_book(), Plan("letter")
        log = [
            (("send", "k", PRESS), ("sent", 0)), (("send", "k", CUT), ("sent", 1)), (("work", "stops"), ("played", 0, "done", False)),
            (("work", "done"), ("played", 0, "done", True)), (("work", "fails"), ("failed", 1, "shelved")), (("carry",), ("carried", 1)),
        ]
        self.assertTrue(self.check(book, plan, log))
        for k, account in [
            (0, ("sent", False)), (1, ("sent", True)), (1, ("sent", 1.0)), (2, ("played", 0, "done", 0)), (2, ("played", False, "done", False)),
            (3, ("played", 0, "done", 1)), (3, ("played", 0, "left", True)), (3, ("played", 0, "done")), (4, ("failed", True, "shelved")),
            (4, ("failed", 1, "stays")), (5, ("carried", True)), (5, ("carried", 0)), (5, ["carried", 1]), (5, ("carried", "1")),
            (5, ("carried",)), (5, ("carried", 1, 1)), (0, (0, "sent")), (2, ("played", 0, "done", "False")), (0, None),
        ]:
            value = log[:k] + [(log[k][0], account)] + log[k + 1:]
            self.assertFalse(self.check(book, plan, value))
            self.assertEqual(first_fault(book, plan, value), k)
        self.assertEqual(first_fault(value=log + [log[0]], plan=plan, book=book), 6)

    def test_values_of_any_kind(self):
        for book, plan in [(lamp_book(), Plan("letter")), (lamp_book(), Plan("key", stamp=True))]:
            start = [(("send", "k", PRESS), ("sent", 0))]
            for value in any_values() + [tuple(start), {0: start[0]}, start[0], House(book, plan), "log"]:
                self.check(book, plan, value)
                self.check(book, plan, [value])
                self.check(book, plan, start + [value])
                self.check(book, plan, start + [(value, ("sent", 1))])
                self.check(book, plan, start + [(("send", "k", PRESS), value)])
                self.check(book, plan, [[*start[0]]])
                self.check(book, plan, [start[0] + (value,)])
        self.assertIs(is_log(value=[], plan=Plan("all"), book=lamp_book()), True)

    def test_the_log_of_another_plan_or_book(self):
        met = []
        logs = list(made_logs(30))
        for (_, book, plan, log), (_, other, another, _) in zip(logs, logs[1:]):
            met.append(self.check(book, same_but(plan, way="all", stamp=not plan.stamp), log))
            met.append(self.check(other, another, log))
        self.assertGreater(met.count(False), 20)

    def test_fences_come_first(self):
        for book in (lamp_book(), ring(3, 1)):
            for call in (is_log, first_fault, house_of):
                check_bad_fences(self, book, lambda one, plan: call(one, plan, None))
                check_bad_fences(self, book, lambda one, plan: call(one, plan, []))
        with self.assertRaises(BadFence):
            house_of(lamp_book(), Plan("key", fence=[(0, "z")]), [None])

    def test_the_house_is_a_new_one(self):
        book, plan = lamp_book(), Plan("letter")
        log = [(("send", "k", PRESS), ("sent", 0))]
        house = house_of(log=log, plan=plan, book=book)
        house.do(("carry",))
        log.clear()
        self.assertEqual([len(house.log()), house.edition], [2, 1])


if __name__ == "__main__":
    unittest.main()
