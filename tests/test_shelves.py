import random
import unittest

from lateeditions.books import Book, Change
from lateeditions.errors import BadLetter, BadName, NotNow, TooFar
from lateeditions.plans import Plan
from lateeditions.shelves import Shelf
from support import (
    Model, all_events, any_values, check_bad_fences, grow, lamp, lamp_book, made_book, made_plan, random_events,
    refused, right_book, ring,
)

PRESS, CUT, UP, DOWN = (0, "press"), (0, "cut"), (1, "up"), (1, "down")


GO, STAY = (0, "go"), (0, "stay")


def happened(book, plan, events):
    shelf = Shelf(book, plan)
    accounts = [shelf.do(event) for event in events]
    return shelf, accounts


def not_events(key="k"):
    """Values that are no events, each a little beside one."""
    return any_values() + [
        "carry", ["carry"], ("carry", "done"), ("carry", None), (("carry",),), ("Carry",), ("work",), ("work", None),
        ("work", "Done"),
        ("work", "do"), ["work", "done"], ("work", "done", "done"), ("work", ("done",)), ("works", "done"), ("done", "work"),
        ("replay",), ("replay", "fail"), ("replay", ["stops"]), (("work",), "done"), ("send", key), ("send", key, PRESS, 1),
        ["send", key, PRESS], ("send", key, list(PRESS)), ("send", key, (0, "nosuch")), ("send", key, (False, "press")),
        ("send", key, (True, "up")), ("send", key, ("press", 0)), ("send", key, (0, "press", 0)), ("send", key, "press"),
        ("send", key, (0,)), ("send", key, (-1, "up")), ("send", key, (-2, "press")), ("send", "K", PRESS), ("send", "", PRESS),
        ("send", "abcdefghi", PRESS), ("send", None, PRESS), ("send", ("k",), PRESS), ("send", 1, PRESS), (key, "send", PRESS),
        ("send", PRESS, key), ("send", key, "carry"), ("send", key, ("carry",)), ("send", key, (0, "carry")),
        ("send", key, None),
        ("send", key, (2, "up")), ("send", key, (0, None)), ("send", key, (None, "press")), ("send", key, (0, ["press"])),
        ("sent", 0), ("played", 0, "done", True), ("carried", 1), (None,), (None, None), (None, None, None), ((), "done"),
    ]


class MadeEventsTest(unittest.TestCase):
    def check(self, shelf, model, keys):
        self.assertEqual(
            [shelf.edition, shelf.line, shelf.shelved, shelf.quiet, shelf.events],
            [model.edition(), model.line, model.shelved, not model.under_way(), model.events],
        )
        for key in keys:
            self.assertEqual(shelf.place(key), model.place(key))
            self.assertEqual(shelf.due(key), model.due(key))
            self.assertEqual(shelf.shown(key), model.shown(key))
        for number, letter in enumerate(model.letters):
            self.assertEqual(shelf.letter(number), letter)
            self.assertEqual(shelf.times(number), model.times(number))
            self.assertEqual(shelf.fails(number), model.failed[number])

    def test_against_the_words(self):
        accounts = []
        for seed in range(90):
            pick = random.Random(seed)
            book = made_book(seed, 1 + seed % 3) if seed % 2 else right_book(seed, 1 + seed % 3)
            plan = made_plan(pick, book)
            events = random_events(pick, book, plan, 25).events
            shelf, model = Shelf(book, plan), Model(book, plan)
            for position, event in enumerate(events):
                if position % 4 == 0:
                    for other in all_events(book, ["k", "z"]):
                        self.assertIs(shelf.can(other), model.can(other))
                self.assertIs(shelf.can(event), True)
                told = shelf.do(event)
                self.assertEqual(told, model.do(event))
                self.assertIsInstance(told, tuple)
                accounts.append((told[0],) + told[2:])
                if position % 5 == 4:
                    self.check(shelf, model, ["k", "ab", "none"])
            self.check(shelf, model, ["k", "ab", "none"])
        for kind in [
            ("sent",), ("carried",), ("played", "done", True), ("played", "done", False), ("played", "left", True),
            ("played", "left", False), ("failed", "stays"), ("failed", "shelved"),
        ]:
            self.assertGreater(accounts.count(kind), 20, kind)

    def test_accounts_have_their_kinds(self):
        shelf, told = happened(lamp_book(), Plan("letter"), [
            ("send", "k", PRESS), ("work", "stops"), ("work", "done"), ("send", "k", CUT), ("work", "fails"), ("carry",),
        ])
        self.assertEqual(told, [
            ("sent", 0), ("played", 0, "done", False), ("played", 0, "done", True), ("sent", 1), ("failed", 1, "shelved"),
            ("carried", 1),
        ])
        self.assertIs(told[1][3], False)
        self.assertIs(told[2][3], True)
        self.assertIs(told[0][1].__class__, int)


class CanTest(unittest.TestCase):
    def test_no_events(self):
        full, _ = happened(lamp_book(), Plan("letter"), [("send", "k", PRESS), ("work", "fails"), ("send", "k", PRESS)])
        for shelf in (Shelf(lamp_book(), Plan("key")), full):
            for value in not_events():
                self.assertIs(shelf.can(value), False)
                refused(self, NotNow, value, shelf.do, value)
        self.assertEqual(len(full.events), 3)

    def test_names_of_keys(self):
        shelf = Shelf(lamp_book(), Plan("key"))
        for key in ["a", "abcdefgh", "carry", "send", "none", "z"]:
            self.assertIs(shelf.can(event=("send", key, PRESS)), True)
            self.assertEqual(shelf.do(event=("send", key, PRESS))[0], "sent")

    def test_deeds_of_the_editions_up_to_now(self):
        book = right_book(3, 3)
        shelf = Shelf(book, Plan("key"))
        for now in range(3):
            for edition, desk in enumerate(book.desks):
                for deed in desk.deeds:
                    self.assertIs(shelf.can(("send", "k", (edition, deed))), edition <= now)
                for other in {one for two in book.desks for one in two.deeds} - set(desk.deeds):
                    self.assertIs(shelf.can(("send", "k", (edition, other))), False)
            self.assertIs(shelf.can(("carry",)), now < 2)
            if now < 2:
                self.assertEqual(shelf.do(("carry",)), ("carried", now + 1))
        refused(self, NotNow, ("carry",), shelf.do, ("carry",))

    def test_nothing_to_take(self):
        for way in ("letter", "key", "all"):
            shelf = Shelf(lamp_book(), Plan(way))
            for word in ("work", "replay"):
                for how in ("done", "stops", "fails"):
                    self.assertIs(shelf.can((word, how)), False)
            shelf.do(("send", "k", PRESS))
            self.assertEqual([shelf.can(("work", "done")), shelf.can(("replay", "done"))], [True, False])
            shelf.do(("work", "done"))
            self.assertEqual([shelf.can(("work", "done")), shelf.can(("replay", "done"))], [False, False])

    def test_what_is_held(self):
        events = [("send", "k", GO), ("send", "k", GO), ("send", "m", GO), ("work", "fails")]
        for way, taken in [("letter", 1), ("key", 2), ("all", None)]:
            shelf, _ = happened(ring(), Plan(way), events)
            self.assertEqual([shelf.line, shelf.shelved], [[1, 2], [0]])
            if taken is None:
                refused(self, NotNow, ("work", "done"), shelf.do, ("work", "done"))
            else:
                self.assertEqual(shelf.do(("work", "done")), ("played", taken, "done", True))
            self.assertEqual(shelf.do(("replay", "stops")), ("played", 0, "done", False))
            self.assertEqual(shelf.shelved, [0])
            shelf.do(("replay", "done"))
            self.assertIs(shelf.can(("work", "done")), True)
        shelf, _ = happened(ring(), Plan("key"), events[:1] + [("send", "k", GO), ("work", "fails")])
        self.assertIs(shelf.can(("work", "stops")), False)

    def test_held_by_any_letter_on_the_shelf(self):
        events = [("send", "k", GO), ("send", "m", GO), ("work", "fails"), ("work", "fails"), ("send", "m", GO), ("send", "n", GO)]
        shelf, _ = happened(ring(), Plan("key"), events)
        self.assertEqual(shelf.shelved, [0, 1])
        self.assertEqual(shelf.do(("work", "done")), ("played", 3, "done", True))
        self.assertIs(shelf.can(("work", "done")), False)
        self.assertEqual(shelf.do(("replay", "done")), ("played", 0, "done", True))
        self.assertIs(shelf.can(("work", "done")), False)

    def test_fences(self):
        book = lamp_book()
        for fence, sent, expected in [
            ([], PRESS, True), ([PRESS], PRESS, False), ([CUT], PRESS, True), ([CUT, PRESS], CUT, False), ([UP], PRESS, True),
        ]:
            plan = Plan("letter", fence=fence)
            for more in [[], [("work", "stops")], [("work", "fails")], [("work", "fails"), ("replay", "stops")], [("send", "m", sent)]]:
                shelf, _ = happened(book, plan, [("send", "k", sent), *more])
                self.assertIs(shelf.can(("carry",)), expected)
            shelf, _ = happened(book, plan, [("send", "k", sent), ("work", "done")])
            self.assertIs(shelf.can(("carry",)), True)
            shelf, _ = happened(book, plan, [("send", "k", sent), ("work", "fails"), ("replay", "done")])
            self.assertIs(shelf.can(("carry",)), True)
        shelf, _ = happened(book, Plan("letter", fence=[CUT]), [("send", "k", PRESS), ("send", "k", CUT)])
        self.assertIs(shelf.can(("carry",)), False)

    def test_a_deed_of_a_newer_edition_in_the_fence(self):
        book = ring(3, 3)
        shelf, _ = happened(book, Plan("letter", fence=[(1, "go")]), [("send", "k", GO), ("carry",), ("send", "k", (1, "go"))])
        self.assertIs(shelf.can(("carry",)), False)
        shelf, _ = happened(book, Plan("letter", fence=[(0, "go")]), [("carry",), ("send", "k", (1, "go"))])
        self.assertIs(shelf.can(("carry",)), True)


class TriesTest(unittest.TestCase):
    def test_each_number_of_tries(self):
        for tries in (1, 2, 3):
            shelf, told = happened(ring(), Plan("letter", tries=tries), [("send", "k", GO)] + [("work", "fails")] * tries)
            self.assertEqual(told[1:], [("failed", 0, "stays")] * (tries - 1) + [("failed", 0, "shelved")])
            self.assertEqual([shelf.line, shelf.shelved, shelf.fails(0)], [[], [0], tries])
            for _ in range(4):
                self.assertEqual(shelf.do(("replay", "fails")), ("failed", 0, "stays"))
            self.assertEqual([shelf.line, shelf.shelved, shelf.fails(0), shelf.times(0)], [[], [0], tries, 0])

    def test_what_comes_between_does_not_count(self):
        shelf, told = happened(ring(), Plan("letter", tries=3), [
            ("send", "k", GO), ("work", "fails"), ("work", "stops"), ("send", "m", GO), ("work", "fails"), ("work", "stops"),
            ("work", "fails"), ("work", "fails"),
        ])
        self.assertEqual([row for row in told if row[0] == "failed"], [
            ("failed", 0, "stays"), ("failed", 0, "stays"), ("failed", 0, "shelved"), ("failed", 1, "stays"),
        ])
        self.assertEqual([shelf.fails(0), shelf.fails(1), shelf.times(0)], [3, 1, 2])

    def test_to_the_end_of_the_shelf(self):
        shelf, _ = happened(ring(), Plan("letter"), [("send", "k", GO)] * 3 + [("work", "fails")] * 3)
        self.assertEqual(shelf.shelved, [0, 1, 2])
        shelf.do(("replay", "fails"))
        self.assertEqual(shelf.shelved, [0, 1, 2])
        shelf.do(("replay", "done"))
        self.assertEqual(shelf.shelved, [1, 2])

    def test_a_letter_behind_others_fails(self):
        shelf, told = happened(ring(), Plan("key", tries=2), [
            ("send", "k", GO), ("send", "k", GO), ("send", "m", GO), ("work", "fails"), ("work", "fails"), ("work", "fails"),
        ])
        self.assertEqual(told[3:], [("failed", 0, "stays"), ("failed", 0, "shelved"), ("failed", 2, "stays")])
        self.assertEqual([shelf.line, shelf.shelved], [[1, 2], [0]])
        self.assertEqual(shelf.do(("work", "fails")), ("failed", 2, "shelved"))
        self.assertEqual([shelf.line, shelf.shelved], [[1], [0, 2]])


class GuardsTest(unittest.TestCase):
    def words(self, plan, events, book=None):
        return [row[2] for row in happened(book or ring(), plan, events)[1] if row[0] == "played"]

    def test_each_window(self):
        # The letter 0 is done, so many others of its key are, and it is taken again from the shelf.
        for window in [None, *range(1, 13), "ever"]:
            for between in range(15):
                events = [("send", "k", GO), ("work", "stops"), ("work", "fails")]
                events += [("send", "k", STAY), ("work", "done")] * between + [("replay", "done")]
                for more in ([], [("send", "m", GO), ("work", "stops"), ("work", "stops"), ("work", "done")]):
                    left = window == "ever" or window is not None and between < window
                    row = events[:3] + more + events[3:]
                    shelf, told = happened(ring(), Plan("letter", window=window), row)
                    self.assertEqual(told[-1], ("played", 0, "left" if left else "done", True))
                    self.assertEqual(shelf.times(0), 1 if left else 2)
                    self.assertEqual(shelf.place("k"), (0, "b" if left else "c"))

    def test_what_was_left_out_and_carries_do_not_count(self):
        start = [("send", "k", GO), ("work", "stops"), ("work", "fails")]
        left = [("replay", "stops")] * 5
        carries = [("carry",), ("carry",)]
        for window, between, expected in [
            (1, left, "left"), (1, carries, "left"),
            (2, left + [("send", "k", STAY), ("work", "done")] + left + carries, "left"),
            (1, left + [("send", "k", STAY), ("work", "done")], "done"),
        ]:
            events = start + between + [("replay", "done")]
            self.assertEqual(self.words(Plan("letter", window=window), events, ring(9, 3))[-1], expected)

    def test_deeds_done_again_count(self):
        # Letter 1 is done twice behind letter 0: with a window of one, these are two deeds.
        events = [
            ("send", "k", GO), ("work", "stops"), ("work", "fails"), ("send", "k", STAY), ("work", "stops"), ("work", "fails"),
            ("send", "k", STAY), ("work", "done"), ("replay", "stops"),
        ]
        for window, told in [(1, "done"), (2, "done"), (3, "left")]:
            self.assertEqual(self.words(Plan("letter", window=window), events)[-1], told)
        twice = events[:6] + [("send", "k", STAY), ("work", "stops"), ("work", "fails"), ("replay", "stops"), ("replay", "done")]
        self.assertEqual(self.words(Plan("letter", window=1), twice), ["done", "done", "done", "done", "left"])
        self.assertEqual(self.words(Plan("letter", window=2), twice), ["done", "done", "done", "done", "left"])
        self.assertEqual(self.words(Plan("letter", window=3), twice), ["done", "done", "done", "left", "left"])

    def test_the_window_counts_from_when_it_was_last_done(self):
        start = [("send", "k", GO), ("work", "stops"), ("work", "fails")]
        other = [("send", "k", STAY), ("work", "done")]
        events = start + other * 2 + [("replay", "stops")] + other + [("replay", "stops")] + other + [("replay", "stops")]
        self.assertEqual(self.words(Plan("letter", window=2), events), ["done"] * 5 + ["left", "done", "done"])

    def test_the_number_counts_not_the_deed(self):
        events = [("send", "k", GO), ("work", "stops"), ("send", "k", GO), ("work", "done"), ("work", "done")]
        self.assertEqual(self.words(Plan("letter", window="ever"), events), ["done", "left", "done"])

    def test_keys_are_apart(self):
        events = [("send", "k", GO), ("work", "stops"), ("work", "fails"), ("send", "m", GO), ("work", "done"), ("replay", "done")]
        self.assertEqual(self.words(Plan("letter", window=1), events), ["done", "done", "left"])
        self.assertEqual(self.words(Plan("letter", stamp=True), events), ["done", "done", "left"])
        events = [("send", "k", GO), ("work", "fails"), ("send", "m", GO), ("work", "done"), ("replay", "done")]
        self.assertEqual(self.words(Plan("letter", stamp=True), events), ["done", "done"])

    def test_stamps(self):
        late = [("send", "k", GO), ("work", "fails"), ("send", "k", GO), ("work", "done"), ("replay", "done")]
        again = [("send", "k", GO), ("work", "stops"), ("work", "stops"), ("work", "done"), ("send", "k", GO), ("work", "done")]
        for window in (None, 1, "ever"):
            self.assertEqual(self.words(Plan("letter", stamp=True, window=window), late), ["done", "left"])
            self.assertEqual(self.words(Plan("letter", stamp=True, window=window), again), ["done", "left", "left", "done"])
        self.assertEqual(self.words(Plan("letter"), late), ["done", "done"])
        self.assertEqual(self.words(Plan("letter", window="ever"), late), ["done", "done"])
        # What was left out is no deed that was done, and does not come to stand for one.
        shelf, _ = happened(ring(), Plan("letter", stamp=True), late)
        self.assertEqual([shelf.times(0), shelf.times(1), shelf.place("k"), shelf.due("k")], [0, 1, (0, "b"), (0, "c")])

    def test_by_stops_a_letter_stays(self):
        shelf, told = happened(ring(), Plan("letter", window=1), [("send", "k", GO), ("send", "k", GO), ("work", "stops")])
        self.assertEqual([shelf.line, shelf.place("k"), shelf.quiet], [[0, 1], (0, "b"), False])
        self.assertEqual(shelf.do(("work", "stops")), ("played", 0, "left", False))
        self.assertEqual([shelf.line, shelf.place("k")], [[0, 1], (0, "b")])
        self.assertEqual(shelf.do(("work", "done")), ("played", 0, "left", True))
        self.assertEqual([shelf.line, shelf.place("k"), shelf.times(0)], [[1], (0, "b"), 1])
        self.assertEqual(shelf.do(("work", "done")), ("played", 1, "done", True))
        self.assertEqual([shelf.quiet, shelf.place("k")], [True, (0, "c")])


class PlacesTest(unittest.TestCase):
    def test_keys_without_letters(self):
        book = Book(lamp_book().desks, [Change(
            grow().first, grow().second, {"off": "low", "on": "high"}, {"press": ["up"], "cut": []},
            {"dark": "dark", "half": "light", "light": "light"},
        )])
        shelf = Shelf(book, Plan("key"))
        self.assertEqual([shelf.place("z"), shelf.due("z"), shelf.shown("z")], [(0, "off"), (0, "off"), ("dark", "dark")])
        shelf.do(("carry",))
        self.assertEqual([shelf.place(key="z"), shelf.due(key="z"), shelf.shown(key="z")], [(1, "low"), (1, "low"), ("half", "half")])
        shelf.do(("send", "z", UP))
        self.assertEqual([shelf.place("z"), shelf.due("z"), shelf.shown("z")], [(1, "low"), (1, "high"), ("half", "light")])

    def test_elder_deeds_behind_the_carry(self):
        shelf, _ = happened(lamp_book(), Plan("letter"), [("send", "k", PRESS), ("carry",), ("send", "k", CUT), ("work", "done")])
        self.assertEqual([shelf.due("k"), shelf.place("k")], [(1, "off"), (1, "high")])
        shelf.do(("work", "done"))
        self.assertEqual([shelf.due("k"), shelf.place("k")], [(1, "off"), (1, "off")])

    def test_all_keys_are_carried(self):
        events = [("send", "k", PRESS), ("work", "done"), ("send", "m", CUT), ("work", "done"), ("carry",)]
        shelf, _ = happened(lamp_book(), Plan("letter"), events)
        self.assertEqual([shelf.place(key) for key in ("k", "m", "n")], [(1, "high"), (1, "off"), (1, "off")])
        self.assertEqual(shelf.edition, 1)

    def test_wrong_names(self):
        shelf = Shelf(lamp_book(), Plan("key"))
        for value in any_values() + ["K", "k1", "", "abcdefghi", ("k",), ["k"], b"k"]:
            if value != "nosuch":
                for call in (shelf.place, shelf.due, shelf.shown):
                    refused(self, BadName, value, call, value)

    def test_wrong_letters(self):
        shelf, _ = happened(lamp_book(), Plan("key"), [("send", "k", PRESS), ("send", "m", CUT), ("work", "done")])
        for value in any_values() + [2, -1, -2, "0", (0,), 0.0, 10 ** 59]:
            if isinstance(value, (bool, float)) or value not in (0, 1):
                for call in (shelf.letter, shelf.times, shelf.fails):
                    refused(self, BadLetter, value, call, value)
        self.assertEqual([shelf.letter(number=1), shelf.times(number=0), shelf.fails(number=0)], [("m", CUT), 1, 0])
        refused(self, BadLetter, 0, Shelf(lamp_book(), Plan("key")).letter, 0)


class UndoTest(unittest.TestCase):
    def test_back_to_all_moments(self):
        for seed in range(24):
            pick = random.Random(seed)
            book = made_book(seed, 1 + seed % 3)
            plan = made_plan(pick, book)
            events = random_events(pick, book, plan, 14).events
            for many in range(15):
                shelf, _ = happened(book, plan, events)
                self.assertIsNone(shelf.undo(many))
                fresh, _ = happened(book, plan, events[:14 - many])
                self.check_same(shelf, fresh)
                self.assertEqual([shelf.do(event) for event in events[14 - many:]], [fresh.do(event) for event in events[14 - many:]])
                self.check_same(shelf, fresh)

    def check_same(self, one, other):
        self.assertTrue(one == other)
        for shelf in (one, other):
            self.assertEqual([shelf.edition, shelf.line, shelf.shelved, shelf.quiet, shelf.events], [
                other.edition, other.line, other.shelved, other.quiet, other.events,
            ])
        for key in ("k", "ab", "none"):
            self.assertEqual([one.place(key), one.due(key)], [other.place(key), other.due(key)])
        many = len([event for event in other.events if event[0] == "send"])
        for number in range(many):
            self.assertEqual([one.letter(number), one.times(number), one.fails(number)], [
                other.letter(number), other.times(number), other.fails(number),
            ])
        refused(self, BadLetter, many, one.letter, many)

    def test_too_far(self):
        for many in range(3):
            shelf, _ = happened(lamp_book(), Plan("key"), [("send", "k", PRESS)] * many)
            for value in any_values() + [many + 1, -1, "1", 1.0, (1,)]:
                if isinstance(value, (bool, float)) or value not in list(range(many + 1)):
                    refused(self, TooFar, many, shelf.undo, value)
            self.assertEqual(len(shelf.events), many)
            shelf.undo(number=0)
            self.assertEqual(len(shelf.events), many)
            shelf.undo(many)
            self.assertEqual(shelf, Shelf(lamp_book(), Plan("key")))


class ForkTest(unittest.TestCase):
    def test_forks_go_their_own_ways(self):
        events = [("send", "k", PRESS), ("work", "stops"), ("send", "m", CUT), ("carry",), ("work", "fails")]
        shelf, _ = happened(lamp_book(), Plan("letter", tries=2), events)
        other = shelf.fork()
        self.assertIsInstance(other, Shelf)
        self.assertTrue(shelf == other and shelf is not other)
        UndoTest.check_same(self, other, shelf)
        other.do(("work", "fails"))
        self.assertFalse(shelf == other)
        self.assertEqual([shelf.line, shelf.shelved, shelf.fails(0)], [[0, 1], [], 1])
        self.assertEqual([other.line, other.shelved, other.fails(0)], [[1], [0], 2])
        other.undo(1)
        self.assertTrue(shelf == other)
        shelf.undo(5)
        self.assertEqual(other.events, events)
        self.assertEqual(other.fork().place("k"), other.place("k"))


class ShelfTest(unittest.TestCase):
    def test_at_first(self):
        book, plan = lamp_book(), Plan("all", tries=3)
        shelf = Shelf(plan=plan, book=book)
        self.assertEqual([shelf.book, shelf.plan], [book, plan])
        self.assertEqual([shelf.edition, shelf.line, shelf.shelved, shelf.quiet, shelf.events], [0, [], [], True, []])
        self.assertIs(shelf.quiet, True)

    def test_fences(self):
        for book in (lamp_book(), Book([lamp()], []), made_book(4, 3)):
            check_bad_fences(self, book, Shelf)
        Shelf(lamp_book(), Plan("key", fence=[CUT, PRESS, DOWN, UP]))

    def test_lists_are_new(self):
        shelf, _ = happened(lamp_book(), Plan("letter"), [("send", "k", PRESS), ("send", "k", PRESS), ("work", "fails")])
        for _ in range(2):
            self.assertEqual([shelf.line, shelf.shelved, len(shelf.events)], [[1], [0], 3])
            shelf.line.clear()
            shelf.shelved.append(7)
            shelf.events.pop()

    def test_refusals_change_nothing(self):
        events = [("send", "k", PRESS), ("work", "stops"), ("send", "m", CUT), ("work", "fails")]
        shelf, _ = happened(lamp_book(), Plan("all", fence=[PRESS]), events)
        for event in [("work", "done"), ("carry",), ("send", "k", UP), ("send", "k"), None]:
            refused(self, NotNow, event, shelf.do, event)
        for call, value in [(shelf.undo, 9), (shelf.letter, 5), (shelf.place, "K")]:
            with self.assertRaises(ValueError):
                call(value)
        UndoTest.check_same(self, shelf, happened(lamp_book(), Plan("all", fence=[PRESS]), events)[0])

    def test_can_changes_nothing(self):
        shelf = Shelf(lamp_book(), Plan("key"))
        for event in all_events(lamp_book(), ["k"]) + not_events():
            shelf.can(event)
        self.assertEqual(shelf, Shelf(lamp_book(), Plan("key")))

    def test_equal(self):
        events = [("send", "k", PRESS), ("work", "done")]
        shelf, _ = happened(lamp_book(), Plan("key"), events)
        self.assertIs(shelf == happened(lamp_book(), Plan("key"), events)[0], True)
        self.assertIs(shelf != happened(lamp_book(), Plan("key"), events)[0], False)
        for book, plan, other in [
            (lamp_book(), Plan("all"), events), (lamp_book(), Plan("key", tries=2), events),
            (Book([lamp()], []), Plan("key"), events),
            (lamp_book(), Plan("key"), events[:1]), (lamp_book(), Plan("key"), events + [("carry",)]),
            (lamp_book(), Plan("key"), [("send", "m", PRESS), ("work", "done")]),
            (lamp_book(), Plan("key"), [("send", "k", PRESS), ("work", "stops")]),
        ]:
            self.assertIs(shelf == happened(book, plan, other)[0], False)
        for value in any_values() + [events, lamp_book(), Plan("key")]:
            self.assertIs(shelf == value, False)


if __name__ == "__main__":
    unittest.main()
