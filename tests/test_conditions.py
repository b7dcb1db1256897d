import unittest

from lateeditions.bearing import bears_between
from lateeditions.books import Book
from lateeditions.conditions import failing, is_failing, is_sound, late_row
from lateeditions.desks import Desk
from lateeditions.errors import BadDeed, BadFence, BadNumber, BadPlace
from lateeditions.plans import Plan
from plainly import KINDS, asked, come_of, deeds_of, fails, fences_of, is_plain_failing, plain_failing
from support import (
    all_places, all_plans, any_values, check_bad_fences, forgetting, half_right_books, is_between, lamp, lamp_book,
    made_book, plain_alike, plain_late, plain_led, refused, right_book, ring, rows_from, variants,
)

BOOKS = [made_book(3, 1), made_book(4, 2), made_book(7, 2), right_book(2, 1), right_book(4, 2), right_book(9, 3), made_book(5, 3)]
BOOKS += [lamp_book(), ring(3, 1), forgetting(), *half_right_books(2)]
PRESS, CUT, UP, DOWN = (0, "press"), (0, "cut"), (1, "up"), (1, "down")


class FailingTest(unittest.TestCase):
    def test_plans_of_all_sorts(self):
        met = {word: 0 for word in KINDS}
        sound = []
        for book in BOOKS:
            for plan in all_plans(fences_of(book)[:3] if book.last < 2 else fences_of(book)[2:3]):
                told = failing(book, plan)
                self.assertEqual([one[:3] if one[0] == "late" else one for one in told], plain_failing(book, plan))
                for one in told:
                    met[one[0]] += 1
                    if one[0] == "late":
                        self.assertEqual(len(one), 4)
                        self.assertTrue(is_plain_failing(book, plan, one), one)
                self.assertIs(is_sound(book, plan), told == [])
                sound.append(told == [])
        for word in KINDS:
            self.assertGreater(met[word], 100, word)
        self.assertGreater(min(sound.count(True), sound.count(False)), 40)

    def test_tries_do_not_matter(self):
        for way in ("letter", "key", "all"):
            told = [failing(lamp_book(), Plan(way, tries=tries)) for tries in (1, 2, 3)]
            self.assertTrue(told[0] == told[1] == told[2])

    def test_sequence(self):
        told = failing(lamp_book(), Plan("letter", window=1, fence=[CUT]))
        self.assertEqual([KINDS.index(one[0]) for one in told], sorted(KINDS.index(one[0]) for one in told))
        for word in ("carry", "swap", "late"):
            places = [one[1] for one in told if one[0] == word]
            self.assertEqual(places, sorted(places, key=all_places(lamp_book()).index))

    def test_whole_lists(self):
        book = Book([lamp()], [])
        self.assertEqual(failing(plan=Plan("letter", window="ever"), book=book), [
            ("swap", (0, "off"), PRESS, CUT), ("swap", (0, "on"), PRESS, CUT),
        ])
        self.assertEqual(failing(book, Plan("letter", stamp=True)), [
            ("drop", (0, "off"), PRESS, PRESS), ("drop", (0, "on"), PRESS, PRESS), ("drop", (0, "on"), CUT, PRESS),
        ])
        self.assertEqual(failing(book, Plan("all")), [("twice", (0, "off"), PRESS), ("twice", (0, "on"), PRESS)])
        self.assertEqual(failing(book, Plan("all", stamp=True)), [])
        self.assertEqual(failing(book, Plan("key", window=12)), [])
        late = [one for one in failing(book, Plan("letter")) if one[0] == "late"]
        self.assertEqual(late, [("late", (0, "off"), PRESS, []), ("late", (0, "on"), PRESS, [])])

    def test_new_each_time(self):
        book = Book([lamp()], [])
        told = failing(book, Plan("letter"))
        told[-1][3].append(1)
        told.clear()
        self.assertEqual(failing(book, Plan("letter"))[-1], ("late", (0, "on"), PRESS, []))

    def test_fences_come_first(self):
        for book in (lamp_book(), Book([lamp()], [])):
            for call in (failing, is_sound, lambda book, plan: is_failing(book, plan, None)):
                check_bad_fences(self, book, call)
        with self.assertRaises(BadFence):
            is_failing(lamp_book(), Plan("key", fence=[(0, "z")]), ("carry", (0, "on"), PRESS))


class IsFailingTest(unittest.TestCase):
    def test_what_fails_and_what_does_not(self):
        right = wrong = 0
        for book in BOOKS:
            plans = [
                Plan("letter", window=2, fence=fences_of(book)[1]), Plan("letter", stamp=True), Plan("key"),
                Plan("all", window=1),
                Plan("letter", window="ever", fence=fences_of(book)[3]),
            ]
            for plan in plans:
                told = failing(book, plan)
                for one in told:
                    self.assertIs(is_failing(book, plan, one), True)
                for one in asked(book, plan):
                    if one[0] != "late":
                        self.assertIs(is_failing(book, plan, one), one in told)
                        right += one in told
                        wrong += one not in told
        self.assertGreater(min(right, wrong), 100)

    def test_instances_of_other_plans(self):
        met = []
        for book in BOOKS[4:9]:
            plans = [
                Plan("letter"), Plan("letter", window=1), Plan("letter", window=2), Plan("letter", window="ever"),
                Plan("letter", stamp=True),
                Plan("key"), Plan("key", window=1), Plan("all", stamp=True), Plan("letter", fence=fences_of(book)[3]),
                Plan("letter", window=1, fence=fences_of(book)[2]), Plan("key", fence=fences_of(book)[2]),
            ]
            values = [one for plan in plans for one in failing(book, plan)[::3]]
            for plan in plans:
                for value in values:
                    expected = is_plain_failing(book, plan, value)
                    self.assertIs(is_failing(book, plan, value), expected, value)
                    met.append(expected)
        self.assertGreater(min(met.count(True), met.count(False)), 100)

    def test_variants(self):
        met = []
        for book in (BOOKS[1], BOOKS[4], lamp_book()):
            for plan in [Plan("letter", window=1), Plan("letter", stamp=True), Plan("key")]:
                told = failing(book, plan)
                for word in KINDS:
                    for one in [one for one in told if one[0] == word][:2]:
                        for value in list(variants(one)) + [one + (None,), one[:3] + (one[-1],), list(one)]:
                            expected = is_plain_failing(book, plan, value)
                            self.assertIs(is_failing(book, plan, value), expected, value)
                            met.append(expected)
        self.assertGreater(met.count(True), 5)

    def test_rows_of_late_instances(self):
        met = []
        for book in (lamp_book(), BOOKS[4], BOOKS[2]):
            for plan in [Plan("letter"), Plan("letter", window=1), Plan("letter", window=2, fence=fences_of(book)[1])]:
                for place in come_of(book)[:4]:
                    for one in deeds_of(book, place[0])[:2]:
                        for row in rows_from(book, place[0], 3 if book.last == 1 else 2):
                            value = ("late", place, one, row)
                            expected = is_plain_failing(book, plan, value)
                            self.assertIs(is_failing(book, plan, value), expected, value)
                            met.append((expected, "carry" in row))
        for kind in [(True, True), (True, False), (False, True), (False, False)]:
            self.assertGreater(met.count(kind), 30, kind)

    def test_any_values(self):
        for plan in (Plan("letter"), Plan("key"), Plan("letter", stamp=True)):
            for value in any_values() + KINDS + [(word,) for word in KINDS]:
                self.assertIs(is_failing(lamp_book(), plan, value), False)
                for right in [("carry", (0, "on"), PRESS), ("drop", (0, "on"), PRESS, PRESS), ("late", (0, "on"), PRESS, [])]:
                    for k in range(len(right)):
                        if value != right[k] and (k or value not in KINDS):
                            changed = right[:k] + (value,) + right[k + 1:]
                            self.assertIs(is_failing(lamp_book(), plan, changed), False, changed)

    def test_bools_are_no_editions(self):
        plan = Plan("letter", stamp=True)
        self.assertIs(is_failing(lamp_book(), plan, ("drop", (1, "off"), UP, UP)), True)
        for value in [
            ("drop", (True, "off"), UP, UP), ("drop", (1, "off"), (True, "up"), UP), ("drop", (1, "off"), UP, (True, "up")),
            ["drop", (1, "off"), UP, UP], ("drop", [1, "off"], UP, UP), ("drop", (1, "off"), list(UP), UP),
            ("drop", (1, "off"), UP),
            ("drop", (1, "off"), UP, UP, UP), ("drop", (0, "off"), UP, UP), ("drop", (1, "off"), UP, "carry"),
        ]:
            self.assertIs(is_failing(lamp_book(), plan, value), False, value)
        self.assertIs(is_failing(value=("carry", (0, "on"), PRESS), plan=plan, book=lamp_book()), True)
        for value in [("carry", (0, "on"), (False, "press")), ("carry", (False, "on"), PRESS), ("carry", (0, "on"), "carry")]:
            self.assertIs(is_failing(lamp_book(), plan, value), False, value)

    def test_places_that_can_not_come(self):
        desk = Desk(["a", "b"], {"go": {"a": "a", "b": "a"}, "hop": {"a": "a", "b": "b"}}, {"a": "s", "b": "t"})
        book = Book([desk], [])
        for plan in (Plan("letter", stamp=True), Plan("letter"), Plan("key")):
            self.assertEqual(failing(book, plan), [])
            self.assertIs(is_sound(plan=plan, book=book), True)
        self.assertTrue(fails(book, ("drop", (0, "b"), (0, "go"), (0, "hop"))))
        self.assertIs(is_failing(book, Plan("letter", stamp=True), ("drop", (0, "b"), (0, "go"), (0, "hop"))), False)


class LateRowTest(unittest.TestCase):
    def check(self, book, place, deed, many, fenced):
        told = late_row(book, place, deed, many, fenced)
        pair = [plain_led(book, place, [deed, deed]), plain_led(book, place, [deed])]
        self.assertEqual(told is not None, plain_late(book, *pair, many, fenced))
        if told is not None:
            self.assertTrue(is_between(book, plain_led(book, place, [deed]), told, many, fenced))
            self.assertFalse(plain_alike(book, plain_led(book, place, [deed, deed] + told), plain_led(book, place, [deed] + told)))
        return told is None

    def test_all_places(self):
        met = []
        for book in BOOKS:
            for place in all_places(book):
                for deed in deeds_of(book, place[0]):
                    for many in (0, 1, 3):
                        met.append([self.check(book, place, deed, many, fenced) for fenced in (True, False)])
        for kind in [[True, True], [False, False], [True, False]]:
            self.assertGreater(met.count(kind), 1, kind)
        self.assertNotIn([False, True], met)

    def test_all_numbers(self):
        for many in range(13):
            for fenced in (False, True):
                self.check(lamp_book(), (0, "off"), PRESS, many, fenced)
                self.check(lamp_book(), (1, "off"), UP, many, fenced)
                self.check(ring(3, 2), (0, "b"), (0, "go"), many, fenced)
                self.assertIsNone(late_row(fenced=fenced, many=many, deed=CUT, place=(0, "on"), book=lamp_book()))

    def test_as_bears_between_says(self):
        for book in BOOKS[:8]:
            for deed in deeds_of(book, 0):
                for fenced in (False, True):
                    rows = [late_row(book, place, deed, 2, fenced) for place in come_of(book) if place[0] == 0]
                    self.assertEqual(bears_between(book, 0, deed, 2, fenced) is None, rows == [None] * len(rows))

    def test_errors(self):
        book = lamp_book()
        for value in any_values() + [(0, "low"), (True, "off"), [0, "off"], (2, "off"), "off", (0, "off", 1)]:
            refused(self, BadPlace, value, late_row, book, value, PRESS, 1, False)
            refused(self, BadPlace, value, late_row, book, value, None, None, False)
        for value in any_values() + ["carry", UP, (False, "press"), list(PRESS), "press", (0, "up"), (1, "press"), PRESS + (1,)]:
            refused(self, BadDeed, value, late_row, book, (0, "off"), value, 1, True)
            refused(self, BadDeed, value, late_row, book, (0, "off"), value, None, True)
        refused(self, BadDeed, "carry", late_row, book, (1, "off"), "carry", 1, False)
        for value in any_values() + [13, -1, "1", 1.0, (1,), "ever"]:
            if isinstance(value, (bool, float)) or value not in (0, 1, 7):
                refused(self, BadNumber, value, late_row, book, (0, "off"), PRESS, value, False)

    def test_new_each_time(self):
        late_row(ring(3), (0, "a"), (0, "go"), 2, False).clear()
        self.assertEqual(len(late_row(ring(3), (0, "a"), (0, "go"), 2, False)), 2)

    def test_carries_ahead_of_the_deeds(self):
        for many in range(13):
            told = [late_row(forgetting(), (0, "a"), (0, "go"), many, fenced) for fenced in (True, False)]
            self.assertEqual([told[0] is None, told[1].count("carry")], [many > 0, min(many, 1)])


if __name__ == "__main__":
    unittest.main()
