import random
import unittest

from lateeditions.books import Book
from lateeditions.desks import Desk
from lateeditions.errors import BadFence, BadName, NotNow
from lateeditions.outcomes import cut_to, done_and_due, one_key, outcome
from lateeditions.plans import Plan
from plainly import plain_outcome, settled
from support import (
    Model, any_values, check_bad_fences, lamp_book, made_book, made_plan, plain_led, random_events, refused,
    right_book, ring,
)

PRESS, CUT = (0, "press"), (0, "cut")
LATE = [("send", "k", PRESS), ("work", "fails"), ("send", "k", CUT), ("work", "done"), ("replay", "done")]
WORDS = ("send", "work", "replay", "carry")


def runs(many):
    """Tuples (book, plan, model behind a row of events) of all sorts, half of them quiet."""
    for seed in range(many):
        pick = random.Random(seed)
        book = [lamp_book(), right_book(seed, 1 + seed % 3), ring(4, 1 + seed % 2), made_book(seed, 1 + seed % 2)][seed % 4]
        plan = made_plan(pick, book) if seed % 3 else Plan("letter", tries=1 + seed % 2)
        yield book, plan, (settled if seed % 5 else random_events)(pick, book, plan, 16)


class OutcomeTest(unittest.TestCase):
    def test_against_the_words(self):
        met = []
        for book, plan, model in runs(160):
            expected = plain_outcome(book, plan, model.events)
            told = outcome(book, plan, model.events)
            self.assertEqual(told, expected)
            self.assertIsInstance(told, tuple)
            met.append((told[0], len(told[-1]) if told[0] == "harm" else 0))
        for word, many in [("busy", 0), ("fine", 0), ("harm", 1), ("harm", 2)]:
            self.assertGreater(met.count((word, many)), 4, word)

    def test_events_left_out_or_exchanged(self):
        met = []
        for book, plan, model in runs(60):
            events = model.events
            for k in range(len(events)):
                ahead, event, behind = events[:k], events[k:k + 1], events[k + 1:]
                for row in [ahead + behind, ahead + event + event + behind, ahead + behind + event]:
                    self.assertEqual(outcome(book, plan, row), plain_outcome(book, plan, row))
                    met.append(outcome(book, plan, row)[0])
        for word in ["busy", "fine", "harm", "impossible"]:
            self.assertGreater(met.count(word), 20, word)

    def test_entries_that_are_no_events(self):
        for value in any_values() + ["carry", ["carry"], ("work", "do"), ("send", "k", [0, "press"]), ("send", "K", PRESS)]:
            for k in range(len(LATE) + 1):
                row = LATE[:k] + [value] + LATE[k:]
                self.assertEqual(outcome(lamp_book(), Plan("letter"), row), ("impossible", k))
                refused(self, NotNow, value, done_and_due, lamp_book(), Plan("letter"), row, "k")
                refused(self, NotNow, value, cut_to, lamp_book(), Plan("letter"), row, "k")
                self.assertIsNone(one_key(lamp_book(), Plan("letter"), row))

    def test_nothing(self):
        self.assertEqual(outcome(events=[], plan=Plan("key"), book=lamp_book()), ("fine",))
        self.assertEqual(outcome(lamp_book(), Plan("key"), [("carry",), ("carry",)]), ("impossible", 1))

    def test_busy_letters_ascend(self):
        events = [("send", key, CUT) for key in ("a", "b", "c", "d")] + [("work", "fails")] * 2 + [("work", "done")]
        self.assertEqual(outcome(lamp_book(), Plan("letter"), events), ("busy", (0, 1, 3)))
        self.assertEqual(outcome(lamp_book(), Plan("letter"), events[:5]), ("busy", (0, 1, 2, 3)))
        # What is under way comes ahead of what is seen.
        self.assertEqual(outcome(lamp_book(), Plan("letter"), LATE + [("send", "k", CUT)]), ("busy", (2,)))

    def test_keys_of_harm_ascend(self):
        events = []
        for key in ("m", "b", "zz", "ab"):
            events += [("send", key, PRESS), ("work", "stops"), ("work", "done")]
        events += [("send", "c", PRESS), ("work", "done")]
        self.assertEqual(outcome(lamp_book(), Plan("letter"), events), ("harm", ("ab", "b", "m", "zz")))
        self.assertEqual(outcome(lamp_book(), Plan("letter", window=1), events), ("fine",))

    def test_sights_not_places(self):
        # The places differ, but what is seen does not: no harm.
        twin = Book([Desk(["a", "b", "c"], {"go": {"a": "b", "b": "c", "c": "c"}}, {"a": "p", "b": "q", "c": "q"})], [])
        events = [("send", "k", (0, "go")), ("work", "stops"), ("work", "done")]
        self.assertEqual(outcome(twin, Plan("key"), events), ("fine",))

    def test_fences_come_first(self):
        for call in (outcome, one_key):
            check_bad_fences(self, lamp_book(), lambda book, plan: call(book, plan, [None]))
        for call in (done_and_due, cut_to):
            check_bad_fences(self, lamp_book(), lambda book, plan: call(book, plan, [None], None))
        with self.assertRaises(BadFence):
            outcome(lamp_book(), Plan("key", fence=[(5, "x")]), [])


class DoneAndDueTest(unittest.TestCase):
    def test_against_the_words(self):
        for book, plan, model in runs(120):
            for key in ("k", "ab", "z", "other"):
                done, due = done_and_due(book, plan, model.events, key)
                self.assertEqual([done, due], [model.inputs(key, model.was_done), model.inputs(key, model.was_due)])
                self.assertEqual([plain_led(book, book.start, row) for row in (done, due)], [model.place(key), model.due(key)])

    def test_left_out_and_failed(self):
        events = [
            ("send", "k", PRESS), ("work", "stops"), ("work", "stops"), ("work", "fails"), ("carry",), ("send", "k", CUT),
            ("replay", "fails"),
            ("work", "done"), ("replay", "done"),
        ]
        told = done_and_due(book=lamp_book(), plan=Plan("letter", window=1), events=events, key="k")
        self.assertEqual(told, ([PRESS, "carry", CUT, PRESS], [PRESS, "carry", CUT]))
        self.assertIsInstance(told, tuple)
        told = done_and_due(lamp_book(), Plan("letter", window=2), events, "k")
        self.assertEqual(told, ([PRESS, "carry", CUT], [PRESS, "carry", CUT]))

    def test_which_error_comes_first(self):
        row = LATE[:2] + [("carry",), ("carry",), None]
        for call in (done_and_due, cut_to):
            for value in any_values() + ["K", "", ("k",)]:
                if value != "nosuch":
                    refused(self, BadName, value, call, lamp_book(), Plan("letter"), LATE, value)
                    refused(self, BadName, value, call, lamp_book(), Plan("letter"), [], value)
                refused(self, NotNow, row[3], call, lamp_book(), Plan("letter"), row, value)
            refused(self, NotNow, LATE[3], call, lamp_book(), Plan("key"), LATE, "k")


class CutToTest(unittest.TestCase):
    def test_against_the_words(self):
        for book, plan, model in runs(120):
            for key in ("k", "ab", "z", "other"):
                row = cut_to(book, plan, model.events, key)
                again = Model(book, plan)
                plain = []
                for event in model.events:
                    account = again.do(event)
                    if event[0] == "carry" or again.letters[account[1]][0] == key:
                        plain.append(event)
                self.assertEqual(row, plain)
                self.assertNotEqual(outcome(book, plan, row)[0], "impossible")
                self.assertEqual(done_and_due(book, plan, row, key), done_and_due(book, plan, model.events, key))

    def test_ordinary(self):
        events = [
            ("send", "m", PRESS), ("send", "k", PRESS), ("work", "fails"), ("work", "stops"), ("carry",),
            ("replay", "fails"), ("send", "m", CUT),
            ("work", "done"), ("replay", "done"), ("work", "done"),
        ]
        self.assertEqual(cut_to(lamp_book(), Plan("letter"), events, "k"), [events[k] for k in (1, 3, 4, 7)])
        told = cut_to(key="m", events=events, plan=Plan("letter"), book=lamp_book())
        self.assertEqual(told, [events[k] for k in (0, 2, 4, 5, 6, 8, 9)])
        self.assertEqual(cut_to(lamp_book(), Plan("letter"), events, "z"), [("carry",)])
        self.assertEqual(len(events), 10)


class OneKeyTest(unittest.TestCase):
    def test_against_the_words(self):
        found = 0
        for book, plan, model in runs(160):
            told = one_key(book, plan, model.events)
            expected = plain_outcome(book, plan, model.events)
            if expected[0] != "harm":
                self.assertIsNone(told)
            else:
                found += 1
                self.assertIsInstance(told, tuple)
                key, row = told
                self.assertEqual(key, min(expected[1]))
                self.assertEqual(row, cut_to(book, plan, model.events, key))
                self.assertEqual(outcome(book, plan, row), ("harm", (key,)))
        self.assertGreater(found, 12)

    def test_the_least_key(self):
        events = [("send", "m", PRESS), ("send", "b", PRESS), ("work", "done"), ("work", "stops"), ("work", "done")]
        events += [("send", "c", PRESS), ("work", "stops"), ("work", "done")]
        told = one_key(events=events, plan=Plan("letter"), book=lamp_book())
        self.assertEqual(told, ("b", [events[1], ("work", "stops"), ("work", "done")]))
        told[1].clear()
        self.assertEqual(len(one_key(lamp_book(), Plan("letter"), events)[1]), 3)
        self.assertIsNone(one_key(lamp_book(), Plan("letter"), []))
        self.assertIsNone(one_key(lamp_book(), Plan("letter"), LATE[:2]))


if __name__ == "__main__":
    unittest.main()
