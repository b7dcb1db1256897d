import itertools
import unittest

from lateeditions.books import Book
from lateeditions.errors import BadPlan
from lateeditions.plans import Plan, is_fence
from support import any_values, lamp, lamp_book, made_book, refused

DEEDS = [(0, "cut"), (0, "press"), (1, "down"), (1, "up")]


def told(plan):
    return (plan.way, plan.tries, plan.window, plan.stamp, plan.fence)


class PlanTest(unittest.TestCase):
    def test_all_parts(self):
        windows = [None, *range(1, 13), "ever"]
        fences = [(), ((0, "a"),), tuple(DEEDS), ((10 ** 59, "abcdefgh"),)]
        for parts in itertools.product(["letter", "key", "all"], [1, 2, 3], windows, [False, True], fences):
            way, tries, window, stamp, fence = parts
            plan = Plan(way, tries=tries, window=window, stamp=stamp, fence=fence)
            self.assertEqual(told(plan), parts)
            self.assertIs(plan.stamp, stamp)

    def test_what_is_told_when_nothing_is(self):
        self.assertEqual(told(Plan("all")), ("all", 1, None, False, ()))
        self.assertIs(Plan("all").stamp, False)
        self.assertEqual(told(Plan(fence=[], stamp=True, way="key")), ("key", 1, None, True, ()))

    def test_parts_are_told_by_name(self):
        with self.assertRaises(TypeError):
            Plan("key", 1)
        with self.assertRaises(TypeError):
            Plan()

    def test_fences(self):
        for fence in [[], DEEDS, tuple(DEEDS), [(0, "a"), (0, "aa"), (0, "b"), (1, "a")], [(2, "b"), (10, "a")]]:
            plan = Plan("key", fence=fence)
            self.assertEqual(plan.fence, tuple(fence))
            self.assertIsInstance(plan.fence, tuple)
        wrong = [
            DEEDS[::-1], DEEDS[:1] * 2, [(0, "b"), (0, "a")], [(1, "a"), (0, "b")], [(0, "b"), (0, "aa")],
            [(0, "a"), (0, "b"), (0, "b")],
            [[0, "a"]], [(0, "a"), [1, "b"]], [(-1, "a")], [(True, "a")], [(False, "a")], [(0, "A")], [(0, "")],
            [(0, "abcdefghi")],
            [(0, None)], [(0,)], [(0, "a", 1)], [("0", "a")], [("a", 0)], (0, "a"), ((0, "a"), None), {(0, "a"): 1},
            "press", [(0, ["a"])],
            [(None, "a")], [()], [((0, "a"),)], ["carry"],
        ]
        for value in wrong:
            refused(self, BadPlan, value, Plan, "key", fence=value)
        for value in any_values():
            if value not in ([], ()):
                refused(self, BadPlan, value, Plan, "key", fence=value)
            refused(self, BadPlan, (one := [(0, "a"), value]), Plan, "key", fence=one)

    def test_wrong_ways(self):
        for value in any_values() + ["Letter", "letters", "key ", "ever", "none", ("key",), ["all"], "lette", "al"]:
            refused(self, BadPlan, value, Plan, value)
            refused(self, BadPlan, value, Plan, way=value)

    def test_wrong_tries(self):
        for value in any_values() + [4, -1, "1", 1.0, [1], (1,), "ever"]:
            if isinstance(value, (bool, float)) or value not in (1, 2, 3):
                refused(self, BadPlan, value, Plan, "key", tries=value)

    def test_wrong_windows(self):
        for value in any_values() + [13, -1, "1", 12.0, [1], ("ever",), "Ever", "none", "never", 10 ** 59]:
            if value is not None and (isinstance(value, (bool, float)) or value not in (1, 7)):
                refused(self, BadPlan, value, Plan, "key", window=value)

    def test_wrong_stamps(self):
        for value in any_values() + [0, 1, "True", None, "yes", [True]]:
            if not isinstance(value, bool):
                refused(self, BadPlan, value, Plan, "key", stamp=value)

    def test_the_first_wrong_part_is_told(self):
        parts = {"way": ["w"], "tries": ["t"], "window": ["v"], "stamp": ["s"], "fence": ["f"]}
        right = {"way": "key", "tries": 2, "window": 3, "stamp": True, "fence": DEEDS}
        for one, other in itertools.combinations(parts, 2):
            refused(self, BadPlan, parts[one], Plan, **{**right, one: parts[one], other: parts[other]})
        for k in range(5):
            names = list(parts)[k:]
            refused(self, BadPlan, parts[names[0]], Plan, **{**right, **{name: parts[name] for name in names}})

    def test_what_was_handed_in_is_copied(self):
        fence = list(DEEDS)
        plan = Plan("key", fence=fence)
        fence.clear()
        self.assertEqual(plan.fence, tuple(DEEDS))

    def test_equal(self):
        right = {"way": "key", "tries": 2, "window": 3, "stamp": True, "fence": DEEDS}
        plan = Plan(**right)
        self.assertIs(plan == Plan(**{**right, "fence": tuple(DEEDS)}), True)
        self.assertIs(plan != Plan(**right), False)
        for part, others in {
            "way": ["letter", "all"], "tries": [1, 3], "window": [None, 2, 4, "ever"], "stamp": [False],
            "fence": [(), DEEDS[:3]],
        }.items():
            for other in others:
                self.assertIs(plan == Plan(**{**right, part: other}), False)
                self.assertIs(plan != Plan(**{**right, part: other}), True)
        for value in any_values() + [told(plan), "key", lamp_book()]:
            self.assertIs(plan == value, False)


class IsFenceTest(unittest.TestCase):
    def test_deeds_of_the_book(self):
        book = lamp_book()
        for many in range(5):
            for fence in itertools.combinations(DEEDS, many):
                self.assertIs(is_fence(book, Plan("key", fence=fence)), True)
        for bad in [(0, "up"), (1, "press"), (2, "up"), (0, "carry"), (0, "a"), (1, "z"), (10 ** 59, "up")]:
            for many in range(5):
                for fence in itertools.combinations(DEEDS, many):
                    self.assertIs(is_fence(plan=Plan("all", fence=sorted([*fence, bad])), book=book), False)
        self.assertIs(is_fence(Book([lamp()], []), Plan("all", fence=DEEDS[:2])), True)
        self.assertIs(is_fence(Book([lamp()], []), Plan("all", fence=DEEDS[:3])), False)

    def test_three_editions(self):
        book = made_book(4, 3)
        deeds = sorted((number, deed) for number, desk in enumerate(book.desks) for deed in desk.deeds)
        self.assertIs(is_fence(book, Plan("key", fence=deeds)), True)
        self.assertIs(is_fence(book, Plan("key", fence=[*deeds, (3, "go")])), False)


if __name__ == "__main__":
    unittest.main()
