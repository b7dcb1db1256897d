import random
import unittest

from lateeditions.books import Book
from lateeditions.conditions import is_sound
from lateeditions.desks import Desk
from lateeditions.errors import BadFence
from lateeditions.papers import is_paper, least_paper, paper_of
from lateeditions.plans import Plan
from plainly import asked, deeds_of, fences_of, late_deeds
from support import (
    all_places, all_plans, any_values, capped, check_bad_fences, forgetting, kept, lamp_book, made_book,
    plain_alike, plain_come, plain_inputs, plain_led, plain_sight, plain_step, resting, right_book, ring, setters,
    split, twins, variants,
)

BOOKS = [made_book(3, 1), made_book(4, 2), made_book(7, 2), right_book(2, 1), right_book(4, 2), made_book(5, 3)]
BOOKS += [lamp_book(), ring(3, 1), forgetting(), setters(), capped(3), twins(), right_book(7, 2), right_book(10, 2), resting(), split()]
PRESS, CUT, UP, DOWN = (0, "press"), (0, "cut"), (1, "up"), (1, "down")


def rows_between(book, edition, many, fenced):
    """All rows with so many deeds, and with carries at any positions unless they are fenced."""
    if many == 0 and (fenced or edition == book.last):
        yield []
        return
    if many == 0:
        yield []
    if not fenced and edition < book.last:
        yield from (["carry", *row] for row in rows_between(book, edition + 1, many, fenced))
    if many:
        for one in deeds_of(book, edition):
            yield from ([one, *row] for row in rows_between(book, edition, many - 1, fenced))


def both_rows(book, plan, instance):
    """The pairs of rows that an instance compares; of a late one those of all rows v."""
    word, place, one = instance[:3]
    more = list(instance[3:])
    if word == "late":
        for row in rows_between(book, place[0], late_deeds(plan), one in plan.fence):
            yield [one, one, *row], [one, *row]
    elif word == "carry":
        yield [one, "carry"], ["carry", one]
    else:
        yield {"twice": ([one, one], [one]), "swap": ([one, *more], [*more, one]), "drop": ([one, *more], more)}[word]


@kept
def needed(book, plan_key):
    """All pairs of different places to which instances lead, each in both sequences."""
    way, window, stamp, fence = plan_key
    plan = Plan(way, window=window, stamp=stamp, fence=fence)
    pairs = set()
    for instance in asked(book, plan):
        for rows in both_rows(book, plan, instance):
            pair = tuple(plain_led(book, instance[1], row) for row in rows)
            if pair[0] != pair[1]:
                pairs |= {pair, pair[::-1]}
    return pairs


def needed_by(book, plan):
    return needed(book, (plan.way, plan.window, plan.stamp, plan.fence))


def led_on(book, pair):
    return [tuple(plain_step(book, place, one) for place in pair) for one in plain_inputs(book, pair[0][0])]


def plain_paper(book, plan):
    """The least paper, by a search through all that is needed."""
    met = sorted(needed_by(book, plan))
    for pair in met:
        met += [other for other in led_on(book, pair) if other[0] != other[1] and other not in met]
    if any(plain_sight(book, one) != plain_sight(book, other) for one, other in met):
        return None
    order = [place for place in all_places(book) if place in plain_come(book)]
    pairs = {tuple(sorted(pair, key=order.index)) for pair in met}
    return sorted(pairs, key=lambda pair: (order.index(pair[0]), order.index(pair[1])))


def is_plain_place(book, value):
    if value.__class__ is not tuple or [part.__class__ for part in value] != [int, str]:
        return False
    return value in all_places(book)


def is_plain_paper(book, plan, value):
    if value.__class__ is not list:
        return False
    for pair in value:
        if pair.__class__ is not tuple or len(pair) != 2 or not all(is_plain_place(book, place) for place in pair):
            return False
        if pair[0] == pair[1] or pair[0][0] != pair[1][0] or plain_sight(book, pair[0]) != plain_sight(book, pair[1]):
            return False
        if value.count(pair) + value.count(pair[::-1]) > 1:
            return False
    met = {pair for pair in value} | {pair[::-1] for pair in value}
    if not needed_by(book, plan) <= met:
        return False
    return all(one == other or (one, other) in met for pair in value for one, other in led_on(book, pair))


@kept
def sound_plans(book):
    """The plans with windows up to three, with several fences, that are sound."""
    plans = [plan for plan in all_plans(fences_of(book)) if plan.window != 12]
    return [plan for plan in plans if is_sound(book, plan)]


class LeastPaperTest(unittest.TestCase):
    def test_against_a_plain_search(self):
        sizes = []
        for book in BOOKS:
            for fence in fences_of(book)[::2]:
                for plan in all_plans([fence]):
                    if plan.window != 12 and (plan.window != 3 or book.last < 2):
                        told = least_paper(book, plan)
                        self.assertEqual(told, plain_paper(book, plan))
                        self.assertIs(told is None, not is_sound(book, plan))
                        sizes.append(-1 if told is None else len(told))
        self.assertGreater(sizes.count(-1), 50)
        self.assertGreater(sizes.count(0), 10)
        self.assertGreater(len([size for size in sizes if size > 1]), 20)

    def test_none_exactly_where_the_plan_is_not_sound(self):
        for book in BOOKS:
            for way in ("letter", "key", "all"):
                for window in (4, 11, 12, "ever"):
                    for fence in fences_of(book):
                        plan = Plan(way, tries=2, window=window, fence=fence)
                        self.assertIs(least_paper(plan=plan, book=book) is None, not is_sound(book, plan))
                        self.assertIs(paper_of(plan=plan, book=book) is None, not is_sound(book, plan))

    def test_whole_papers(self):
        self.assertEqual(least_paper(lamp_book(), Plan("key", window=1, fence=[PRESS])), [])
        self.assertEqual(least_paper(twins(), Plan("key", window=1)), [((1, "on"), (1, "lit"))])
        self.assertIsNone(least_paper(lamp_book(), Plan("key", window=1)))

    def test_as_what_is_told(self):
        for book in BOOKS:
            for plan in sound_plans(book)[::3]:
                self.assertTrue(is_plain_paper(book, plan, paper_of(book, plan)))
                self.assertTrue(is_paper(book, plan, paper_of(book, plan)))
                self.assertTrue(is_paper(book, plan, least_paper(book, plan)))
                paper_of(book, plan).append(None)
                least_paper(book, plan).append(None)
                self.assertTrue(is_paper(book, plan, least_paper(book, plan)))


    def test_sequence(self):
        # What is needed at the first place stands behind what is needed at the second one.
        stay = {name: name for name in "abcdef"}
        sights = {name: "s" if name in "ab" else "t" for name in "abcdef"}
        for lead, expected in [
            ({"a": "e", "b": "c", "c": "d", "d": "d", "e": "f", "f": "f"}, [("c", "d"), ("e", "f")]),
            ({"a": "e", "b": "d", "c": "c", "d": "c", "e": "c", "f": "f"}, [("c", "d"), ("c", "e")]),
            ({"a": "e", "b": "f", "c": "c", "d": "d", "e": "d", "f": "c"}, [("c", "f"), ("d", "e")]),
        ]:
            book = Book([Desk(list("abcdef"), {"x": lead, "y": {**stay, "a": "b"}}, sights)], [])
            told = least_paper(book, Plan("key"))
            self.assertEqual(told, [((0, one), (0, other)) for one, other in expected])
            self.assertEqual(told, plain_paper(book, Plan("key")))


class IsPaperTest(unittest.TestCase):
    def check(self, book, plan, value, met):
        expected = is_plain_paper(book, plan, value)
        self.assertIs(is_paper(book, plan, value), expected, value)
        met.append(expected)

    def test_papers_changed(self):
        met = []
        for book in BOOKS:
            for plan in sound_plans(book)[::5]:
                paper = least_paper(book, plan)
                for k, (one, other) in enumerate(paper[:6]):
                    for changed in [[], [(other, one)], [(one, other), (other, one)], [(one, other)] * 2, [[one, other]], [(one,)]]:
                        self.check(book, plan, paper[:k] + changed + paper[k + 1:], met)
                    for changed in [(one, one), (list(one), other), (one, other, one), ((bool(one[0]), one[1]), other), one]:
                        self.check(book, plan, paper[:k] + [changed] + paper[k + 1:], met)
                self.check(book, plan, paper[::-1], met)
                self.check(book, plan, tuple(paper), met)
                self.check(book, plan, {pair: True for pair in paper}, met)
        self.assertGreater(min(met.count(True), met.count(False)), 40)

    def test_tuples_that_nothing_needs(self):
        met = []
        for book in BOOKS:
            for plan in sound_plans(book)[::6]:
                paper = least_paper(book, plan)
                for one in all_places(book):
                    for other in all_places(book):
                        self.check(book, plan, paper + [(one, other)], met)
                # All pairs of places that are alike for good, also of such as can not come.
                alike = [
                    (one, other) for k, one in enumerate(all_places(book)) for other in all_places(book)[k + 1:]
                    if one[0] == other[0] and plain_alike(book, one, other)
                ]
                self.check(book, plan, alike, met)
                self.assertTrue(met[-1])
                for k in range(len(alike)):
                    self.check(book, plan, alike[:k] + alike[k + 1:], met)
        self.assertGreater(min(met.count(True), met.count(False)), 100)

    def test_plans_that_are_not_sound(self):
        met = []
        for book in BOOKS[:9]:
            for plan in all_plans():
                if plan.window != 12 and not is_sound(book, plan) and plan.window in (None, 1):
                    pairs = sorted(needed_by(book, plan))[::2]
                    for value in [[], pairs, sorted({tuple(sorted(pair)) for pair in needed_by(book, plan)})]:
                        self.check(book, plan, value, met)
        self.assertEqual(met.count(True), 0)

    def test_any_values(self):
        book, plan = twins(), Plan("key", window=1)
        paper = least_paper(book, plan)
        self.assertIs(is_paper(value=paper, plan=plan, book=book), True)
        met = []
        for value in any_values():
            self.check(book, plan, value, met)
            self.check(book, plan, [value], met)
            self.check(book, plan, paper + [value], met)
            self.check(book, plan, [(paper[0][0], value)], met)
            self.check(book, plan, [(value, paper[0][1])], met)
        for value in variants(paper):
            self.check(book, plan, value, met)
        # One of them has but its tuple turned around.
        self.assertEqual(met.count(True), 1)
        sound = Plan("key", window=1, fence=[PRESS])
        for value in any_values():
            self.assertIs(is_paper(lamp_book(), sound, value), value == [])

    def test_random_lists(self):
        met = []
        for seed in range(400):
            pick = random.Random(seed)
            book = BOOKS[seed % len(BOOKS)]
            plans = sound_plans(book)
            plan = plans[seed % len(plans)]
            alike = [
                (one, other) for one in all_places(book) for other in all_places(book)
                if one < other and one[0] == other[0] and plain_alike(book, one, other)
            ]
            some = [pair if pick.random() < 0.5 else pair[::-1] for pair in alike if pick.random() < 0.8]
            pick.shuffle(some)
            self.check(book, plan, some, met)
        self.assertGreater(min(met.count(True), met.count(False)), 30)

    def test_fences_come_first(self):
        for book in (lamp_book(), ring(3, 1)):
            check_bad_fences(self, book, paper_of)
            check_bad_fences(self, book, least_paper)
            check_bad_fences(self, book, lambda one, plan: is_paper(one, plan, None))
        with self.assertRaises(BadFence):
            is_paper(lamp_book(), Plan("key", fence=[(0, "z")]), [])


if __name__ == "__main__":
    unittest.main()
