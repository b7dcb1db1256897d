import random
import unittest

from lateeditions.books import Book
from lateeditions.errors import BadEdition, BadLetter, BadMark, BadName, NotNow, TooFar, TooMany
from lateeditions.houses import House
from lateeditions.plans import Plan
from lateeditions.shelves import Shelf
from support import (
    Model, all_events, any_values, check_bad_fences, lamp, lamp_book, made_book, made_plan, plain_led, plain_seen,
    random_events, refused, right_book, ring,
)

PRESS, CUT, UP, DOWN = (0, "press"), (0, "cut"), (1, "up"), (1, "down")
KEYS = ("k", "ab", "none")


def happened(book, plan, events):
    house = House(book, plan)
    for event in events:
        house.do(event)
    return house


def modelled(book, plan, events):
    model = Model(book, plan)
    accounts = [model.do(event) for event in events]
    return model, accounts


def plans_and_books(many):
    for seed in range(many):
        pick = random.Random(seed)
        book = made_book(seed, 1 + seed % 3) if seed % 2 else right_book(seed, 1 + seed % 3)
        yield pick, book, made_plan(pick, book)


class Whole(unittest.TestCase):
    def check(self, house, book, plan, events):
        """Holds all that a house tells against the words of the document."""
        model, accounts = modelled(book, plan, events)
        self.assertEqual(
            [house.book, house.plan, house.edition, house.line, house.shelved, house.quiet, house.events],
            [book, plan, model.edition(), model.line, model.shelved, not model.under_way(), events],
        )
        self.assertEqual(house.log(), list(zip(events, accounts)))
        for key in KEYS:
            self.assertEqual([house.place(key), house.due(key)], [model.place(key), model.due(key)])
            self.assertEqual(house.shown(key), model.shown(key))
            self.assertEqual([house.done(key), house.due_row(key)], [model.inputs(key, rows) for rows in (model.was_done, model.was_due)])
            # What each key shows is the start led by what was done, and by what was due.
            self.assertEqual(plain_led(book, book.start, house.done(key)), house.place(key))
            self.assertEqual(plain_led(book, book.start, house.due_row(key)), house.due(key))
            for edition in range(model.edition() + 1):
                self.assertEqual(house.look(key, edition), plain_seen(book, model.place(key), edition))
                self.assertEqual(house.due_look(key, edition), plain_seen(book, model.due(key), edition))
        for number, letter in enumerate(model.letters):
            self.assertEqual(house.letter(number), letter)
            self.assertEqual([house.times(number), house.fails(number)], [model.times(number), model.failed[number]])
            story = [row for row in enumerate(accounts) if row[1][0] != "carried" and row[1][1] == number]
            self.assertEqual(house.story(number), story)
            under_way = (model.line + model.shelved).count(number)
            noted = [row for row in story if row[1][-1] is True]
            self.assertEqual([under_way, len(noted)], [0, 1] if noted else [1, 0])
        refused(self, BadLetter, len(model.letters), house.letter, len(model.letters))


class ToldTest(Whole):
    def test_against_the_words(self):
        for pick, book, plan in plans_and_books(60):
            events = random_events(pick, book, plan, 18).events
            house, model = House(book, plan), Model(book, plan)
            for event in events:
                for other in all_events(book, ["k", "z"]):
                    self.assertIs(house.can(other), model.can(other))
                self.assertEqual(house.do(event), model.do(event))
            self.check(house, book, plan, events)

    def test_as_a_shelf(self):
        for pick, book, plan in plans_and_books(20):
            events = random_events(pick, book, plan, 12).events
            house, shelf = happened(book, plan, events), Shelf(book, plan)
            self.assertFalse(house == shelf or shelf == house)
            for event in events:
                shelf.do(event)
            self.assertTrue(house == shelf and shelf == house)
            house.mark()
            self.assertTrue(house == shelf and shelf == house and house == happened(book, plan, events))
            self.assertFalse(house != shelf)
        self.assertIsInstance(House(lamp_book(), Plan("key")), Shelf)
        for value in any_values() + [lamp_book(), Plan("key"), []]:
            self.assertIs(House(lamp_book(), Plan("key")) == value, False)
        events = [("send", "k", PRESS)]
        for other in [
            happened(lamp_book(), Plan("all"), events), happened(ring(3, 1), Plan("key"), [("send", "k", (0, "go"))]),
            happened(lamp_book(), Plan("key"), events * 2), House(lamp_book(), Plan("key")),
        ]:
            self.assertIs(happened(lamp_book(), Plan("key"), events) == other, False)
        self.assertIs(House(lamp_book(), Plan("key")) == House(Book([lamp()], []), Plan("key")), False)

    def test_at_first(self):
        house = House(plan=Plan("all", tries=2), book=lamp_book())
        self.check(house, lamp_book(), Plan("all", tries=2), [])
        self.assertEqual([house.marks, house.log()], [[], []])
        self.assertIs(house.quiet, True)

    def test_refusals_as_of_a_shelf(self):
        house = happened(lamp_book(), Plan("letter"), [("send", "k", PRESS), ("carry",)])
        for value in any_values() + [2, -1, True, "0"]:
            if value.__class__ is not int or value != 0:
                for call in (house.letter, house.times, house.fails, house.story):
                    refused(self, BadLetter, value, call, value)
            if value.__class__ is not int or value not in (0, 1, 2):
                refused(self, TooFar, 2, house.undo, value)
        for value in any_values() + [("work",), ("carry",), ("send", "k", (2, "x")), ["work", "done"]]:
            self.assertIs(house.can(value), False)
            refused(self, NotNow, value, house.do, value)
        for value in any_values() + ["K", "a b", ("k",)]:
            if value != "nosuch":
                for call in (house.place, house.due, house.shown, house.done, house.due_row):
                    refused(self, BadName, value, call, value)
                for call in (house.look, house.due_look):
                    refused(self, BadName, value, call, value, 0)
                    refused(self, BadName, value, call, value, 7)
        self.check(house, lamp_book(), Plan("letter"), [("send", "k", PRESS), ("carry",)])

    def test_editions_up_to_now(self):
        house = House(lamp_book(), Plan("letter"))
        for now in (0, 1):
            for value in any_values() + [now + 1, -1, True, False, "0", None]:
                if value.__class__ is not int or not 0 <= value <= now:
                    for call in (house.look, house.due_look):
                        refused(self, BadEdition, value, call, "k", value)
            if now == 0:
                house.do(("send", "k", PRESS))
                house.do(("carry",))
        self.assertEqual([house.look(key="k", edition=0), house.look("k", 1)], ["dark", "dark"])
        self.assertEqual([house.due_look(key="k", edition=0), house.due_look("k", 1)], ["light", "light"])
        house.do(("work", "done"))
        house.do(("send", "k", DOWN))
        self.assertEqual([house.due_look("k", 0), house.due_look("k", 1), house.look("k", 1)], ["light", "half", "light"])

    def test_stories(self):
        house = happened(lamp_book(), Plan("letter", window="ever"), [
            ("send", "k", PRESS), ("send", "m", CUT), ("work", "stops"), ("carry",), ("work", "fails"), ("replay", "fails"),
            ("work", "done"), ("replay", "done"),
        ])
        self.assertEqual(house.story(number=0), [
            (0, ("sent", 0)), (2, ("played", 0, "done", False)), (4, ("failed", 0, "shelved")), (5, ("failed", 0, "stays")),
            (7, ("played", 0, "left", True)),
        ])
        self.assertEqual(house.story(1), [(1, ("sent", 1)), (6, ("played", 1, "done", True))])
        self.assertEqual([house.done(key="k"), house.due_row(key="k")], [[PRESS, "carry"], [PRESS, "carry"]])
        house.undo(2)
        self.assertEqual(house.story(1), [(1, ("sent", 1))])

    def test_fences_come_first(self):
        for book in (lamp_book(), Book([lamp()], []), made_book(4, 3)):
            check_bad_fences(self, book, House)

    def test_lists_are_new(self):
        house = happened(lamp_book(), Plan("letter"), [("send", "k", PRESS), ("send", "k", PRESS), ("work", "fails")])
        house.mark()
        for _ in range(2):
            self.check(house, lamp_book(), Plan("letter"), [("send", "k", PRESS), ("send", "k", PRESS), ("work", "fails")])
            self.assertEqual(house.marks, [0])
            for told in [house.line, house.shelved, house.events, house.marks, house.log(), house.story(0), house.done("k"), house.due_row("k")]:
                told.append(None)


class MarksTest(Whole):
    def test_six_marks_and_a_seventh(self):
        house = House(lamp_book(), Plan("key"))
        for number in range(6):
            self.assertEqual(house.mark(), number)
            self.assertEqual(house.marks, list(range(number + 1)))
        for _ in range(2):
            refused(self, TooMany, 6, house.mark)
            house.do(("send", "k", PRESS))
        self.assertEqual(house.marks, [0, 1, 2, 3, 4, 5])
        house.back(number=2)
        self.assertEqual([house.marks, house.mark(), house.marks, house.events], [[0, 1, 2], 3, [0, 1, 2, 3], []])

    def test_bad_marks(self):
        house = House(lamp_book(), Plan("key"))
        for many in range(3):
            for value in any_values() + [many, -1, "0", True, False]:
                if value.__class__ is not int or not 0 <= value < many:
                    refused(self, BadMark, value, house.back, value)
            house.do(("send", "k", PRESS))
            house.mark()
        self.assertEqual([house.marks, len(house.events)], [[0, 1, 2], 3])

    def test_marks_that_undo_removes(self):
        house = House(lamp_book(), Plan("letter"))
        house.mark()
        house.do(("send", "k", PRESS))
        house.mark()
        house.mark()
        house.do(("work", "stops"))
        house.mark()
        house.undo(0)
        self.assertEqual(house.marks, [0, 1, 2, 3])
        house.undo(1)
        self.assertEqual(house.marks, [0, 1, 2])
        house.do(("carry",))
        self.assertEqual(house.mark(), 3)
        house.undo(2)
        self.assertEqual(house.marks, [0])
        refused(self, TooFar, 0, house.undo, 1)
        self.assertEqual(house.marks, [0])

    def test_marks_and_returns_at_random(self):
        for pick, book, plan in plans_and_books(40):
            house, events, marks = House(book, plan), [], []
            for _ in range(30):
                step = pick.random()
                if step < 0.15 and len(marks) < 6:
                    self.assertEqual(house.mark(), len(marks))
                    marks.append(list(events))
                elif step < 0.25 and marks:
                    number = pick.randrange(len(marks))
                    self.assertIsNone(house.back(number))
                    events, marks = list(marks[number]), marks[:number + 1]
                elif step < 0.35:
                    many = pick.randint(0, min(3, len(events)))
                    self.assertIsNone(house.undo(many))
                    events = events[:len(events) - many]
                    marks = [mark for mark in marks if len(mark) <= len(events)]
                else:
                    model = modelled(book, plan, events)[0]
                    event = pick.choice([event for event in all_events(book, ["k", "ab"]) if model.can(event)])
                    house.do(event)
                    events.append(event)
                self.assertEqual(house.marks, list(range(len(marks))))
            self.check(house, book, plan, events)
            for number in reversed(range(len(marks))):
                house.back(number)
                self.check(house, book, plan, marks[number])
                self.assertEqual(house.marks, list(range(number + 1)))

    def test_forks_have_the_marks(self):
        house = happened(lamp_book(), Plan("letter"), [("send", "k", PRESS)])
        house.mark()
        house.do(("work", "done"))
        house.mark()
        other = house.fork()
        self.assertIsInstance(other, House)
        self.assertTrue(other == house and other is not house)
        self.assertEqual(other.marks, [0, 1])
        self.check(other, lamp_book(), Plan("letter"), house.events)
        other.mark()
        self.assertEqual([other.marks, house.marks], [[0, 1, 2], [0, 1]])
        other.back(0)
        other.mark()
        other.mark()
        self.assertEqual([other.marks, house.marks, len(house.events)], [[0, 1, 2], [0, 1], 2])
        house.undo(2)
        self.assertEqual([other.marks, house.marks, len(other.events)], [[0, 1, 2], [], 1])
        other.undo(number=1)
        self.assertTrue(other == house)

    def test_all_taken_back(self):
        for pick, book, plan in plans_and_books(20):
            house = happened(book, plan, random_events(pick, book, plan, 10).events)
            house.mark()
            house.undo(10)
            self.check(house, book, plan, [])
            self.assertEqual(house.marks, [])
            self.assertTrue(house == House(book, plan))


if __name__ == "__main__":
    unittest.main()
