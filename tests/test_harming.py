import random
import unittest

from lateeditions.books import Book
from lateeditions.conditions import failing, is_sound
from lateeditions.errors import BadFence, BadPlace, NotFailing
from lateeditions.harming import harm_from, harm_of, way_to
from lateeditions.joins import plain_change
from lateeditions.plans import Plan
from lateeditions.smallest import smallest
from plainly import KINDS, fences_of, is_plain_failing, plain_failing, plain_outcome, settled
from support import (
    all_deeds, all_places, all_plans, any_values, capped, check_bad_fences, forgetting, half_right_books, lamp_book,
    made_book, made_change, made_desk, made_plan, plain_alike, plain_come, plain_led, refused, renamed, right_book,
    ring, rows_from, same_but, setters, variants,
)

BOOKS = [made_book(3, 1), made_book(4, 2), made_book(7, 2), right_book(2, 1), right_book(4, 2), right_book(9, 3), made_book(5, 3)]
BOOKS += [lamp_book(), ring(3, 1), forgetting(), capped(4), setters(), *half_right_books(3)]
WINDOWS = [None, *range(1, 13), "ever"]
PRESS, CUT, UP, DOWN = (0, "press"), (0, "cut"), (1, "up"), (1, "down")


def check_harm(test, book, plan, told):
    """Holds that a list of events harms, by the words of the document alone."""
    test.assertIsInstance(told, list)
    test.assertLessEqual(len(told), 300)
    test.assertEqual(plain_outcome(book, plan, told)[0], "harm", told)


class WayToTest(unittest.TestCase):
    def test_shortest_ways(self):
        lost = 0
        for book in BOOKS:
            for place in all_places(book):
                told = way_to(book, place)
                if place not in plain_come(book):
                    self.assertIsNone(told)
                    lost += 1
                else:
                    self.assertEqual(plain_led(book, book.start, told), place)
                    self.assertEqual(len(told), len(plain_come(book)[place]))
        self.assertGreater(lost, 10)

    def test_against_all_rows(self):
        for book in (lamp_book(), made_book(5, 3), forgetting()):
            for place in all_places(book):
                rows = [row for row in rows_from(book, 0, 4) if plain_led(book, book.start, row) == place]
                told = way_to(place=place, book=book)
                if rows:
                    self.assertEqual(len(told), len(rows[0]))
                else:
                    self.assertTrue(told is None or len(told) > 4)
        self.assertEqual(way_to(lamp_book(), (0, "off")), [])

    def test_new_each_time(self):
        way_to(lamp_book(), (1, "low")).clear()
        self.assertEqual(plain_led(lamp_book(), (0, "off"), way_to(lamp_book(), (1, "low"))), (1, "low"))

    def test_bad_places(self):
        for value in any_values() + [(2, "off"), (0, "low"), (True, "off"), [0, "off"], (0, "off", 0), "off", (-1, "off")]:
            refused(self, BadPlace, value, way_to, lamp_book(), value)


class HarmOfTest(unittest.TestCase):
    def test_plans_of_all_sorts(self):
        found = []
        for number, book in enumerate(BOOKS):
            for way in ("letter", "key", "all"):
                for at, window in enumerate(WINDOWS):
                    for stamp in (False, True):
                        fence = fences_of(book)[(number + at) % 4]
                        plan = Plan(way, tries=1 + at % 3, window=window, stamp=stamp, fence=fence)
                        told = harm_of(book, plan)
                        self.assertIs(told is None, is_sound(book, plan))
                        if told is not None:
                            check_harm(self, book, plan, told)
                        found.append(told is None)
        self.assertGreater(min(found.count(True), found.count(False)), 150)

    def test_none_just_where_no_instance_fails(self):
        for book in BOOKS[:9]:
            for plan in all_plans([fences_of(book)[2]]):
                self.assertIs(harm_of(plan=plan, book=book) is None, plain_failing(book, plan) == [])

    def test_where_one_kind_alone_fails(self):
        met = []
        for book, plan in [
            (lamp_book(), Plan("key", window=1)), (lamp_book(), Plan("all", stamp=True)), (lamp_book(), Plan("key", window="ever")),
            (ring(3, 1), Plan("key")), (ring(4, 1), Plan("all")),
            (setters(), Plan("letter", window="ever")), (setters(), Plan("letter", window=4)),
            (ring(3, 1), Plan("letter", stamp=True)), (ring(3, 1), Plan("letter", stamp=True, window=2)),
            *[(ring(4, 2), Plan("letter", window=window)) for window in WINDOWS[:-1]],
            *[(capped(many), Plan("letter", window=window)) for many in (3, 9) for window in WINDOWS[:-1]],
        ]:
            kinds = {one[0] for one in failing(book, plan)}
            self.assertEqual(len(kinds), 1, kinds)
            for tries in (1, 2, 3):
                check_harm(self, book, same_but(plan, tries=tries), harm_of(book, same_but(plan, tries=tries)))
            met += sorted(kinds)
        for kind, many in [("carry", 3), ("twice", 2), ("swap", 2), ("drop", 2), ("late", 39)]:
            self.assertEqual(met.count(kind), many)

    def test_late_rows_of_many_deeds_with_carries(self):
        carries = 0
        for many in (3, 6, 9):
            for window in WINDOWS[1:-1]:
                plan = Plan("letter", window=window, tries=2)
                told = failing(capped(many), plan)[0]
                self.assertEqual(told[:3], ("late", (0, "a"), (0, "go")))
                self.assertEqual(len([one for one in told[3] if one != "carry"]), window)
                carries += "carry" in told[3]
                check_harm(self, capped(many), plan, harm_of(capped(many), plan))
                check_harm(self, capped(many), plan, harm_from(capped(many), plan, told))
                fenced = same_but(plan, fence=[(0, "go")])
                check_harm(self, capped(many), fenced, harm_of(capped(many), fenced))
        self.assertGreater(carries, 20)

    def test_a_late_row_that_does_not_harm_behind_the_deed(self):
        # Behind x, x, v something else is seen, behind x, v, x it is not: x and v do not change places.
        book = BOOKS[2]
        met = 0
        for plan in [Plan("letter"), Plan("letter", window=1), Plan("letter", window=2)]:
            for one in failing(book, plan):
                if one[0] == "late":
                    _, place, deed, row = one
                    behind = plain_led(book, place, [deed, *row])
                    late = plain_led(book, place, [deed, *row, deed])
                    met += plain_alike(book, behind, late)
                    check_harm(self, book, plan, harm_from(book, plan, one))
        self.assertGreater(met, 0)

    def test_no_row_harms_by_a_sound_plan(self):
        sound = 0
        for seed in range(400):
            pick = random.Random(seed)
            book = [lamp_book(), right_book(seed, 1 + seed % 3), setters(), made_book(seed, 1 + seed % 2)][seed % 4]
            plan = made_plan(pick, book)
            if seed % 2:
                plan = same_but(plan, fence=sorted(all_deeds(book)))
            if harm_of(book, plan) is None:
                sound += 1
                self.assertEqual(plain_outcome(book, plan, settled(pick, book, plan, 20).events), ("fine",))
        self.assertGreater(sound, 50)

    def test_long_rows(self):
        book = Book([made_desk(k, 9, 4, 2) for k in range(3)], [
            made_change(k, made_desk(k, 9, 4, 2), made_desk(k + 1, 9, 4, 2), 16) for k in range(2)
        ])
        for plan in [Plan("letter", window=12, tries=3), Plan("letter", stamp=True, tries=3), Plan("key", tries=3)]:
            check_harm(self, book, plan, harm_of(book, plan))
        check_harm(self, ring(9, 3), Plan("letter", window=12, tries=3), harm_of(ring(9, 3), Plan("letter", window=12, tries=3)))

    def test_new_each_time(self):
        plan = Plan("key", window=1)
        harm_of(lamp_book(), plan).clear()
        check_harm(self, lamp_book(), plan, harm_of(lamp_book(), plan))

    def test_fences_come_first(self):
        for book in (lamp_book(), ring(3, 1)):
            check_bad_fences(self, book, harm_of)
            check_bad_fences(self, book, lambda one, plan: harm_from(one, plan, None))


class HarmFromTest(unittest.TestCase):
    def test_all_that_fail(self):
        met = {kind: 0 for kind in KINDS}
        for book in BOOKS:
            for at, window in enumerate([None, 1, 3, 12, "ever"]):
                for plan in [Plan("letter", window=window, tries=1 + at % 3), Plan("letter", stamp=True), Plan("key", window=window)]:
                    for one in failing(book, plan)[::7]:
                        check_harm(self, book, plan, harm_from(book, plan, one))
                        met[one[0]] += 1
        self.assertGreater(min(met.values()), 3)

    def test_what_does_not_fail_or_is_not_asked(self):
        plans = [Plan("letter", window=1), Plan("letter", stamp=True), Plan("key"), Plan("key", window=2), Plan("all", fence=[PRESS])]
        met = 0
        for plan in plans:
            for value in any_values() + KINDS + [(kind,) for kind in KINDS]:
                refused(self, NotFailing, value, harm_from, lamp_book(), plan, value)
            for other in plans:
                for one in failing(lamp_book(), other)[::2]:
                    for value in [one, *list(variants(one))[::5]]:
                        if is_plain_failing(lamp_book(), plan, value):
                            check_harm(self, lamp_book(), plan, harm_from(instance=value, plan=plan, book=lamp_book()))
                        else:
                            refused(self, NotFailing, value, harm_from, lamp_book(), plan, value)
                            met += 1
        self.assertGreater(met, 100)

    def test_sound_plans(self):
        plan = Plan("key", window=1, fence=[PRESS])
        for value in [("carry", (0, "on"), PRESS), ("carry", (0, "off"), CUT), ("twice", (0, "off"), PRESS), None]:
            refused(self, NotFailing, value, harm_from, lamp_book(), plan, value)
        with self.assertRaises(BadFence):
            harm_from(lamp_book(), Plan("key", fence=[(0, "z")]), ("carry", (0, "on"), PRESS))


class SameBooksTest(unittest.TestCase):
    def test_other_names(self):
        for book in BOOKS:
            other, deeds = renamed(book)
            for plan in all_plans([fences_of(book)[2]]):
                told = same_but(plan, fence=sorted(deeds[deed] for deed in plan.fence))
                self.assertIs(harm_of(other, told) is None, harm_of(book, plan) is None)
                if harm_of(other, told):
                    check_harm(self, other, told, harm_of(other, told))

    def test_smallest_desks(self):
        met = []
        for seed in range(30):
            desk = made_desk(seed, 2 + seed % 6, 2, 2)
            small = smallest(desk)
            met.append(small.standings != desk.standings)
            for editions in (1, 2):
                one, other = [Book([each] * editions, [plain_change(each)] * (editions - 1)) for each in (desk, small)]
                for plan in list(all_plans())[seed % 3::3]:
                    self.assertIs(harm_of(one, plan) is None, harm_of(other, plan) is None)
        self.assertGreater(met.count(True), 5)


if __name__ == "__main__":
    unittest.main()
