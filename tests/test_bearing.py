import unittest

from lateeditions.bearing import bears_between, change_places, made_up_for, passes_carry
from lateeditions.books import Book, Change
from lateeditions.desks import Desk
from lateeditions.errors import BadDeed, BadEdition, BadNumber
from support import (
    any_values, forgetting, half_right_books, is_between, is_plain_row, lamp, lamp_book, made_book, parts_them,
    plain_alike, plain_come, plain_inputs, plain_late, plain_led, refused, right_book, ring,
)

BOOKS = [made_book(seed, 1 + seed % 3) for seed in range(9)] + [right_book(seed, 1 + seed % 3) for seed in range(6)]
BOOKS += [lamp_book(), ring(4, 2), *half_right_books(4)]


def deeds_of(book, edition):
    return [one for one in plain_inputs(book, edition) if one != "carry"]


def places_of(book, edition):
    return [place for place in plain_come(book) if place[0] == edition]


class Checks(unittest.TestCase):
    def check(self, book, edition, told, one, other):
        """Holds None, or rows (u, w), against the words: the two rows lead places to ones alike for good."""
        holds = all(
            plain_alike(book, plain_led(book, place, one), plain_led(book, place, other)) for place in places_of(book, edition)
        )
        self.assertEqual(told is None, holds)
        if told is not None:
            self.assertIsInstance(told, tuple)
            ahead, behind = told
            self.assertEqual(is_plain_row(book, 0, ahead), edition)
            place = plain_led(book, book.start, ahead)
            self.assertIsNotNone(is_plain_row(book, plain_led(book, place, one)[0], behind))
            self.assertTrue(parts_them(book, place, one + behind, other + behind))
        return holds


class PassesCarryTest(Checks):
    def test_all_books(self):
        met = []
        for book in BOOKS:
            for edition in range(book.last):
                for deed in deeds_of(book, edition):
                    told = passes_carry(book, edition, deed)
                    met.append(self.check(book, edition, told, [deed, "carry"], ["carry", deed]))
        self.assertGreater(min(met.count(True), met.count(False)), 10)

    def test_the_newest_edition(self):
        for book in (lamp_book(), Book([lamp()], []), right_book(1, 3)):
            refused(self, BadEdition, book.last, passes_carry, book, book.last, deeds_of(book, book.last)[0])
            refused(self, BadEdition, book.last, passes_carry, book, book.last, None)


class ChangePlacesTest(Checks):
    def test_all_books(self):
        met = []
        for book in BOOKS:
            for edition in range(book.last + 1):
                for one in deeds_of(book, edition):
                    for other in deeds_of(book, edition):
                        told = change_places(book, edition, one, other)
                        met.append(self.check(book, edition, told, [one, other], [other, one]))
        self.assertGreater(min(met.count(True), met.count(False)), 40)


class MadeUpForTest(Checks):
    def test_all_books(self):
        met = []
        for book in BOOKS:
            for edition in range(book.last + 1):
                for one in deeds_of(book, edition):
                    for other in deeds_of(book, edition):
                        met.append(self.check(book, edition, made_up_for(book, edition, one, other), [one, other], [other]))
        self.assertGreater(min(met.count(True), met.count(False)), 40)

    def test_the_first_by_the_second(self):
        self.assertIsNone(made_up_for(lamp_book(), 0, (0, "press"), (0, "cut")))
        self.assertIsNotNone(made_up_for(book=lamp_book(), edition=0, first=(0, "cut"), second=(0, "press")))
        self.assertIsNotNone(change_places(second=(0, "press"), first=(0, "cut"), edition=0, book=lamp_book()))


class BearsBetweenTest(unittest.TestCase):
    def check(self, book, edition, deed, many, fenced):
        told = bears_between(book, edition, deed, many, fenced)
        holds = not any(
            plain_late(book, plain_led(book, place, [deed, deed]), plain_led(book, place, [deed]), many, fenced)
            for place in places_of(book, edition)
        )
        self.assertEqual(told is None, holds)
        if told is not None:
            self.assertIsInstance(told, tuple)
            ahead, between, behind = told
            self.assertEqual(is_plain_row(book, 0, ahead), edition)
            place = plain_led(book, book.start, ahead)
            self.assertTrue(is_between(book, place, between, many, fenced))
            self.assertIsNotNone(is_plain_row(book, edition + between.count("carry"), behind))
            self.assertTrue(parts_them(book, place, [deed, deed] + between + behind, [deed] + between + behind))
        return holds

    def test_all_books(self):
        met = []
        for book in BOOKS:
            for edition in range(book.last + 1):
                for deed in deeds_of(book, edition):
                    for many in (0, 1, 2, 5) if book.last < 2 else (0, 2):
                        for fenced in (False, True):
                            met.append(self.check(book, edition, deed, many, fenced))
        self.assertGreater(min(met.count(True), met.count(False)), 40)

    def test_all_numbers_of_deeds(self):
        # Behind so many steps all is forgotten.
        names = list("abcdefghi")
        desk = Desk(names, {
            "go": dict(zip(names, names[1:] + ["i"])), "jump": dict(zip(names, "cdefghiii")),
        }, {**{name: "s" for name in names}, "i": "t"})
        same = {name: name for name in names}
        change = Change(desk, desk, same, {"go": ["go"], "jump": ["jump"]}, {"s": "s", "t": "t"})
        for book in (Book([desk], []), Book([desk, desk], [change])):
            for many in range(13):
                for fenced in (False, True):
                    for edition in range(book.last + 1):
                        self.assertIs(self.check(book, edition, (0, "go"), many, fenced), many >= 7)
                        self.assertIs(self.check(book, edition, (edition, "jump"), many, fenced), many >= 6)

    def test_carries_ahead_of_the_deeds(self):
        book = forgetting()
        for many in range(5):
            self.assertIs(self.check(book, 0, (0, "go"), many, False), False)
            self.assertIs(self.check(book, 0, (0, "go"), many, True), many > 0)
            self.assertIs(self.check(book, 1, (0, "go"), many, False), True)
        self.assertEqual(bears_between(book, 0, (0, "go"), 3, False)[1][0], "carry")
        self.assertEqual(bears_between(book, 0, (0, "go"), 0, True)[:2], ([], []))

    def test_fenced_and_not(self):
        met = []
        for book in BOOKS:
            for deed in deeds_of(book, 0):
                for many in (1, 3):
                    met.append([self.check(book, 0, deed, many, fenced) for fenced in (False, True)])
        self.assertIn([False, True], met)
        self.assertNotIn([True, False], met)

    def test_wrong_numbers(self):
        for value in any_values() + [13, -1, "1", 1.0, (1,), 10 ** 59, "ever"]:
            if isinstance(value, (bool, float)) or value not in (0, 1, 7):
                refused(self, BadNumber, value, bears_between, lamp_book(), 0, (0, "cut"), value, False)
        self.assertIsNone(bears_between(fenced=True, many=12, deed=(0, "cut"), edition=0, book=lamp_book()))


class RefusalsTest(unittest.TestCase):
    def calls(self, right):
        return [
            lambda book, edition, deed: passes_carry(book, edition, deed),
            lambda book, edition, deed: change_places(book, edition, deed, right),
            lambda book, edition, deed: change_places(book, edition, deed, None),
            lambda book, edition, deed: change_places(book, edition, right, deed),
            lambda book, edition, deed: made_up_for(book, edition, deed, right),
            lambda book, edition, deed: made_up_for(book, edition, deed, None),
            lambda book, edition, deed: made_up_for(book, edition, right, deed),
            lambda book, edition, deed: bears_between(book, edition, deed, 1, False),
            lambda book, edition, deed: bears_between(book, edition, deed, None, True),
        ]

    def test_editions_ahead_of_deeds(self):
        book = right_book(1, 3)
        for call in self.calls(deeds_of(book, 0)[0]):
            for value in any_values() + [3, -1, "0", (0,), 0.0]:
                if isinstance(value, (bool, float)) or value not in (0, 1):
                    refused(self, BadEdition, value, call, book, value, deeds_of(book, 0)[0])
                    refused(self, BadEdition, value, call, book, value, None)

    def test_wrong_deeds(self):
        book = right_book(1, 3)
        deeds = [deeds_of(book, edition) for edition in range(3)]
        wrong = any_values() + [
            "carry", ("carry",), (0, "carry"), (0, "nosuch"), list(deeds[0][0]), (False, deeds[0][0][1]), (-1, deeds[2][-1][1]),
            (3, "go"), deeds[0][0] + (1,), deeds[0][0][1], (0, None),
        ]
        for call in self.calls(deeds[0][0]):
            for value in wrong + deeds[2][-1:] + deeds[1][len(deeds[0]):]:
                refused(self, BadDeed, value, call, book, 0, value)
            for value in wrong + deeds[2][len(deeds[1]):] + [(True, deeds[1][-1][1])]:
                refused(self, BadDeed, value, call, book, 1, value)

    def test_deeds_ahead_of_numbers(self):
        refused(self, BadDeed, None, bears_between, lamp_book(), 0, None, None, False)
        refused(self, BadEdition, None, bears_between, lamp_book(), None, None, None, False)
        refused(self, BadNumber, None, bears_between, lamp_book(), 0, (0, "cut"), None, False)

    def test_new_each_time(self):
        told = passes_carry(lamp_book(), 0, (0, "press"))
        told[0].append(1)
        told[1].append(1)
        self.assertNotIn(1, sum(passes_carry(book=lamp_book(), edition=0, deed=(0, "press")), []))


if __name__ == "__main__":
    unittest.main()
