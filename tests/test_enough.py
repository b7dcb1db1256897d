import itertools
import random
import unittest

from lateeditions.books import Book, Change
from lateeditions.conditions import failing, is_sound
from lateeditions.desks import Desk
from lateeditions.enough import is_as_strict, least_fence, least_window, sparing
from lateeditions.joins import plain_change
from lateeditions.plans import Plan
from lateeditions.smallest import smallest
from plainly import fences_of
from support import (
    all_deeds, all_plans, altered, capped, check_bad_fences, dim, forgetting, grow, half_right_books, kept, lamp,
    lamp_book, lines_run, made_book, made_desk, made_plan, renamed, right_book, ring, same_but, setters, slow, twins,
)

BOOKS = [made_book(3, 1), made_book(4, 2), made_book(7, 2), right_book(2, 1), right_book(4, 2), right_book(10, 3), made_book(6, 3)]
BOOKS += [lamp_book(), ring(3, 1), ring(4, 2), forgetting(), setters(), capped(3), capped(5), twins(), *half_right_books(2)]
WINDOWS = [None, *range(1, 13), "ever"]
WAYS = ["letter", "key", "all"]
PRESS, CUT, UP, DOWN = (0, "press"), (0, "cut"), (1, "up"), (1, "down")


def all_fences(book):
    deeds = sorted(all_deeds(book))
    return [list(some) for many in range(len(deeds) + 1) for some in itertools.combinations(deeds, many)]


@kept
def is_sound_with(book, way, window, stamp, fence):
    return failing(book, Plan(way, window=window, stamp=stamp, fence=fence)) == []


def plain_fence(book, way, window, stamp):
    """The least of all fences with which the plan is sound, by trying all of them; None if none is."""
    enough = [fence for fence in all_fences(book) if is_sound_with(book, way, window, stamp, tuple(fence))]
    return enough[0] if enough else None


def plain_sparing(book):
    found = []
    for way in WAYS:
        for stamp in (False, True):
            ahead = []
            for window in [None] if stamp else WINDOWS:
                fence = plain_fence(book, way, window, stamp)
                if fence is not None:
                    if all(len(fence) < len(other) for other in ahead):
                        found.append((way, window, stamp, tuple(fence)))
                    ahead.append(fence)
    return found


# All fences are tried of books with few deeds alone.
FEW = [book for book in BOOKS if len(all_deeds(book)) < 5]


class LeastFenceTest(unittest.TestCase):
    def test_all_fences(self):
        sizes = []
        for book in FEW + [lagging(), *THREE]:
            for way in WAYS:
                for window in (None, 1, 2, 12, "ever"):
                    for stamp in (False, True):
                        if way != "letter" and window in (2, 12):
                            continue
                        told = least_fence(book, Plan(way, window=window, stamp=stamp))
                        for fence in all_fences(book):
                            enough = told is not None and all(deed in fence for deed in told)
                            self.assertIs(is_sound_with(book, way, window, stamp, tuple(fence)), enough)
                            self.assertIs(is_sound(book, Plan(way, window=window, stamp=stamp, fence=fence)), enough)
                        self.assertEqual(told, plain_fence(book, way, window, stamp))
                        sizes.append(-1 if told is None else len(told))
        for size in (-1, 0, 1, 2):
            self.assertGreater(sizes.count(size), 10, size)

    def test_the_words_of_the_document(self):
        for book in BOOKS:
            for plan in all_plans():
                told = least_fence(book, plan)
                if is_sound(book, same_but(plan, fence=sorted(all_deeds(book)))):
                    some = [one[2] for one in failing(book, plan) if one[0] == "carry" or one[0] == "late" and "carry" in one[3]]
                    late = [one[2] for one in failing(book, plan) if one[0] == "late"]
                    self.assertEqual(told, sorted(set(some) | set(late)))
                else:
                    self.assertIsNone(told)

    def test_its_own_fence_and_tries_do_not_matter(self):
        for book in BOOKS:
            for plan in list(all_plans(fences_of(book)[1:]))[::5]:
                told = least_fence(plan=plan, book=book)
                self.assertEqual(told, least_fence(book, same_but(plan, fence=(), tries=3)))
                self.assertIsInstance(told, (list, type(None)))

    def test_whole_fences(self):
        self.assertEqual(least_fence(lamp_book(), Plan("all", window=3)), [PRESS])
        self.assertEqual(least_fence(capped(4), Plan("letter", window="ever")), [])
        self.assertIsNone(least_fence(setters(), Plan("letter")))
        self.assertEqual(least_fence(setters(), Plan("key")), [])

    def test_ascending(self):
        first = altered(grow(), rows={"press": [], "cut": ["up"]})
        second = Change(
            dim(), lamp(), {"off": "off", "low": "on", "high": "on"}, {"up": [], "down": ["press"]},
            {"dark": "dark", "light": "light"},
        )
        book = Book([lamp(), dim(), lamp()], [first, second])
        self.assertEqual(least_fence(book, Plan("all", window=3)), [CUT, PRESS, DOWN, UP])

    def test_fences_come_first(self):
        for book in (lamp_book(), ring(3, 1)):
            check_bad_fences(self, book, least_fence)
            check_bad_fences(self, book, least_window)


class LeastWindowTest(unittest.TestCase):
    def test_all_windows(self):
        met = []
        slowly = [slow(3, 3, top) for top in (1, 2, 3)]
        for book in BOOKS + [falling(many) for many in range(2, 10)] + slowly:
            for way in WAYS:
                for stamp in (False, True):
                    for fence in [((0, "y"), (1, "y"))] if book in slowly else fences_of(book):
                        sound = [is_sound_with(book, way, window, stamp, fence) for window in WINDOWS]
                        told = least_window(book, Plan(way, stamp=stamp, fence=fence))
                        expected = WINDOWS[sound.index(True)] if True in sound else None
                        self.assertEqual(told, 0 if sound[0] else expected)
                        self.assertNotIsInstance(told, bool)
                        # A plan that is sound with a window is sound with each greater one.
                        self.assertEqual(sound, sorted(sound))
                        met.append(told)
        for told in (0, None, "ever", *range(1, 11)):
            self.assertGreater(met.count(told), 0, told)

    def test_its_own_window_and_tries_do_not_matter(self):
        for book in BOOKS[::2] + [falling(5)]:
            for plan in list(all_plans(fences_of(book)))[::3]:
                self.assertEqual(least_window(plan=plan, book=book), least_window(book, same_but(plan, window=None, tries=2)))

    def test_whole_windows(self):
        self.assertEqual(least_window(ring(3, 1), Plan("letter")), "ever")
        self.assertEqual(least_window(ring(3, 1), Plan("key")), 1)
        self.assertIsNone(least_window(setters(), Plan("letter")))
        self.assertIsNone(least_window(lamp_book(), Plan("key")))
        self.assertEqual(least_window(lamp_book(), Plan("key", stamp=True, fence=[PRESS])), 0)


def falling(many):
    """A book of one desk that counts up to a top, shown alone: two counts are one if enough is done behind them."""
    names = "abcdefghi"[:many]
    go = dict(zip(names, names[1:] + names[-1]))
    return Book([Desk(list(names), {"go": go}, {name: "t" if name == names[-1] else "s" for name in names})], [])


class IsAsStrictTest(unittest.TestCase):
    def expected(self, one, other):
        """Each part of [40], by itself."""
        sizes = {None: 0, "ever": 13}
        return (
            WAYS.index(other.way) >= WAYS.index(one.way)
            and sizes.get(other.window, other.window) >= sizes.get(one.window, one.window)
            and set(one.fence) <= set(other.fence)
            and (one.stamp == other.stamp or other.stamp and other.way != "letter")
        )

    def test_all_pairs(self):
        plans = list(all_plans([(), (PRESS,), (UP,), (CUT, PRESS)]))
        met = []
        for one in plans:
            for other in plans[::3]:
                met.append(is_as_strict(one, other))
                self.assertIs(met[-1], self.expected(one, other))
        self.assertGreater(min(met.count(True), met.count(False)), 200)

    def test_all_windows(self):
        for way in WAYS:
            for at, one in enumerate(WINDOWS):
                for number, other in enumerate(WINDOWS):
                    self.assertIs(is_as_strict(Plan(way, window=one), Plan(way, window=other)), number >= at)

    def test_edges(self):
        plain = Plan("key", window=4, fence=[PRESS])
        self.assertIs(is_as_strict(other=plain, one=plain), True)
        for other, expected in [
            (same_but(plain, way="all"), True), (same_but(plain, way="letter"), False),
            (same_but(plain, window=5), True), (same_but(plain, window=3), False), (same_but(plain, window=None), False),
            (same_but(plain, window="ever"), True), (same_but(plain, window=12), True),
            (same_but(plain, fence=[CUT, PRESS]), True), (same_but(plain, fence=[CUT]), False), (same_but(plain, fence=[]), False),
            (same_but(plain, stamp=True), True), (same_but(plain, tries=3), True), (same_but(plain, stamp=True, way="all"), True),
        ]:
            self.assertIs(is_as_strict(plain, other), expected)
        self.assertIs(is_as_strict(same_but(plain, stamp=True), plain), False)
        loose = Plan("letter")
        self.assertIs(is_as_strict(loose, Plan("letter", stamp=True)), False)
        self.assertIs(is_as_strict(Plan("letter", stamp=True), loose), False)
        self.assertIs(is_as_strict(Plan("letter", stamp=True), Plan("letter", stamp=True)), True)
        self.assertIs(is_as_strict(loose, Plan("key", stamp=True)), True)
        self.assertIs(is_as_strict(Plan("key", window="ever"), Plan("key", window=12)), False)
        self.assertIs(is_as_strict(Plan("key", window=None), Plan("key", window=None)), True)

    def test_what_is_as_strict_is_as_sound(self):
        met = 0
        for seed in range(500):
            pick = random.Random(seed)
            book = BOOKS[seed % len(BOOKS)]
            one, other = made_plan(pick, book), made_plan(pick, book)
            if is_as_strict(one, other) and is_sound(book, one):
                self.assertTrue(is_sound(book, other))
                met += 1
        self.assertGreater(met, 10)


class SparingTest(unittest.TestCase):
    def test_against_all_fences(self):
        many = []
        for book in FEW + [lagging(), *THREE]:
            told = sparing(book)
            self.assertEqual([(plan.way, plan.window, plan.stamp, plan.fence) for plan in told], plain_sparing(book))
            for plan in told:
                self.assertEqual(plan.tries, 1)
                self.assertTrue(is_sound(book, plan))
            many.append(len(told))
        self.assertGreater(len(set(many)), 2)

    def test_several_windows_of_one_way(self):
        told = [(plan.way, plan.window, plan.stamp, plan.fence) for plan in sparing(book=lagging())]
        self.assertEqual(told[:2], [("letter", 2, False, ((0, "x"), (0, "y"))), ("letter", 3, False, ((0, "y"),))])
        self.assertNotEqual(told[2][0], "letter")

    def test_ways_for_which_no_fence_is_enough(self):
        self.assertEqual([(plan.way, plan.window, plan.stamp) for plan in sparing(setters())], [
            ("letter", None, True), ("key", None, False), ("key", None, True), ("all", None, False), ("all", None, True),
        ])
        self.assertEqual([plan.way for plan in sparing(ring(2, 1)) if plan.stamp], ["key", "all"])
        sparing(setters()).clear()
        self.assertEqual(len(sparing(setters())), 5)


class WrittenOutTest(unittest.TestCase):
    """The sparing plans of several books, written out."""

    def check(self, book, letters, fence):
        """Holds the plans whose way is "letter", and the fence of all others."""
        told = [(plan.way, plan.window, plan.stamp, plan.fence) for plan in sparing(book)]
        others = [(way, *part, fence) for way in ("key", "all") for part in ((1, False), (None, True))]
        self.assertEqual(told, letters + others)

    def test_one_edition(self):
        self.check(Book([lamp()], []), [], ())
        for many in range(4, 10):
            self.check(falling(many), [("letter", many - 2, False, ())], ())
        self.assertEqual([(plan.way, plan.window, plan.stamp, plan.fence) for plan in sparing(falling(2))], [
            (way, None, stamp, ()) for way in WAYS for stamp in (False, True)
        ])

    def test_two_editions(self):
        self.check(Book([lamp(), lamp()], [lost()]), [], (PRESS,))
        go, x, y = (0, "go"), (0, "x"), (0, "y")
        for row, window in ((["go", "go"], 2), ([], "ever")):
            book = Book([falling(4).desks[0]] * 2, [going(row)])
            self.check(book, [("letter", window, False, (go,))], (go,))
        self.check(lagging(), [("letter", 2, False, (x, y)), ("letter", 3, False, (y,))], (y,))

    def test_three_editions(self):
        lamps = [lamp()] * 3
        self.check(Book(lamps, [lost(), lost()]), [], (PRESS, (1, "press")))
        self.check(Book(lamps, [plain_change(lamp()), lost()]), [], (PRESS, (1, "press")))
        self.check(Book(lamps, [lost(), plain_change(lamp())]), [], (PRESS,))
        desks = [falling(4).desks[0]] * 3
        go, newer = (0, "go"), (1, "go")
        self.check(Book(desks, [plain_change(desks[0])] * 2), [("letter", 2, False, ())], ())
        self.check(Book(desks, [going([]), plain_change(desks[0])]), [("letter", "ever", False, (go,))], (go,))
        self.check(Book(desks, [plain_change(desks[0]), going([])]), [("letter", "ever", False, (go, newer))], (go, newer))
        x, y = (0, "x"), (0, "y")
        first, second = THREE
        self.check(first, [("letter", 2, False, (x, y)), ("letter", 3, False, (y,))], (y,))
        self.check(second, [
            ("letter", 2, False, (x, y, (1, "x"), (1, "y"))), ("letter", 3, False, (y, (1, "y"))),
        ], (y, (1, "y")))

    def test_cost(self):
        lamps, desks = [lamp()] * 3, [falling(9).desks[0]] * 3
        for many in (1, 2, 3):
            for book in (Book(lamps[:many], [lost()] * (many - 1)), Book(desks[:many], [plain_change(desks[0])] * (many - 1))):
                self.assertLess(lines_run(sparing, book), 30000)
                self.assertLess(lines_run(least_window, book, Plan("letter")), 25000)


def lost():
    """A change between lamps by which a press behind it does nothing."""
    return Change(
        lamp(), lamp(), {"off": "off", "on": "on"}, {"press": [], "cut": ["cut"]}, {"dark": "dark", "light": "light"},
    )


def going(row):
    """A change between desks that count up to three, with a row for the count."""
    desk = falling(4).desks[0]
    return Change(desk, desk, {name: name for name in desk.standings}, {"go": row}, {"s": "s", "t": "t"})


def lagging():
    """A book in which x needs a fence with a window of two, not with one of three; y needs one always.

    Edition 0 counts both deeds; carried, the first y is lost, so that of three deeds behind x one does not count.
    """
    first = Desk(["a", "b", "c", "d", "t"], {
        "x": {"a": "b", "b": "t", "c": "d", "d": "t", "t": "t"}, "y": {"a": "c", "b": "d", "c": "t", "d": "t", "t": "t"},
    }, {name: "s" for name in "abcdt"})
    second = Desk(["a", "x", "xz", "z", "zz", "t"], {
        "x": {"a": "x", "x": "t", "xz": "t", "z": "xz", "zz": "t", "t": "t"},
        "z": {"a": "z", "x": "xz", "xz": "t", "z": "zz", "zz": "t", "t": "t"},
    }, {"a": "s", "x": "s", "xz": "s", "z": "s", "zz": "s", "t": "u"})
    places = {"a": "a", "b": "x", "c": "a", "d": "x", "t": "t"}
    return Book([first, second], [Change(first, second, places, {"x": ["x"], "y": ["z"]}, {"s": "s", "u": "s"})])


def lagging_ahead_and_behind():
    """Books of three editions: what lags does so at the first change alone, or at the second one."""
    desks, change = lagging().desks, lagging().changes[0]
    return [
        Book([desks[0], desks[1], desks[1]], [change, plain_change(desks[1])]),
        Book([desks[0], desks[0], desks[1]], [plain_change(desks[0]), change]),
    ]


THREE = lagging_ahead_and_behind()


class SameBooksTest(unittest.TestCase):
    def test_other_names(self):
        for book in BOOKS:
            other, deeds = renamed(book)
            for plan in all_plans([fences_of(book)[1]]):
                told = same_but(plan, fence=sorted(deeds[deed] for deed in plan.fence))
                fence = least_fence(book, plan)
                self.assertEqual(least_fence(other, told), None if fence is None else sorted(deeds[deed] for deed in fence))
                self.assertEqual(least_window(other, told), least_window(book, plan))
            self.assertEqual(
                [(plan.way, plan.window, plan.stamp, plan.fence) for plan in sparing(other)],
                [(plan.way, plan.window, plan.stamp, tuple(sorted(deeds[deed] for deed in plan.fence))) for plan in sparing(book)],
            )

    def test_smallest_desks(self):
        for seed in range(14):
            desk = made_desk(seed, 2 + seed % 6, 2, 2)
            for editions in (1, 2):
                one, other = [
                    Book([each] * editions, [plain_change(each)] * (editions - 1)) for each in (desk, smallest(desk))
                ]
                self.assertEqual(sparing(one), sparing(other))
                for plan in list(all_plans())[seed % 3::3]:
                    self.assertEqual(least_fence(one, plan), least_fence(other, plan))
                    self.assertEqual(least_window(one, plan), least_window(other, plan))


if __name__ == "__main__":
    unittest.main()
