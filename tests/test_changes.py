import unittest

from lateeditions.books import Book, Change
from lateeditions.changes import (
    deed_break, elder_deeds, eyes_break, is_deed_break, is_eyes_break, is_right, keeps_deeds, keeps_eyes, right_changes,
)
from lateeditions.desks import Desk
from lateeditions.errors import BadNumber
from lateeditions.eyes import seen_along
from support import (
    altered, any_values, half_right_books, is_plain_row, lamp, lamp_book, letters, made_book, plain_alike, plain_come,
    plain_inputs, plain_led, plain_seen, plain_sight, refused, right_book, rows_from, variants,
)

RIGHT = [right_book(seed, 1 + seed % 3) for seed in range(18)]
HALF = list(half_right_books(40))
ANY = [made_book(seed, 1 + seed % 3) for seed in range(24)]


def numbers_of(book):
    return range(book.last)


def plain_elder(book, number):
    return [(s, deed) for s in range(number + 1) for deed in book.desks[s].deeds]


def plain_keeps_deeds(book, number):
    return all(
        plain_alike(book, plain_led(book, place, [deed, "carry"]), plain_led(book, place, ["carry", deed]))
        for place in plain_come(book) if place[0] == number for deed in plain_elder(book, number)
    )


def plain_keeps_eyes(book, number):
    return all(
        plain_seen(book, place, number) == plain_seen(book, plain_led(book, place, ["carry"]), number)
        for place in plain_come(book) if place[0] == number
    )


def breaks_deeds(book, number, value):
    if value.__class__ is not tuple or len(value) != 3 or is_plain_row(book, 0, value[0]) != number:
        return False
    row, deed, more = value
    if is_plain_row(book, number, [deed]) != number or is_plain_row(book, number + 1, more) is None:
        return False
    one = plain_led(book, book.start, row + [deed, "carry"] + more)
    other = plain_led(book, book.start, row + ["carry", deed] + more)
    return plain_sight(book, one) != plain_sight(book, other)


def breaks_eyes(book, number, value):
    if is_plain_row(book, 0, value) != number:
        return False
    place = plain_led(book, book.start, value)
    return plain_seen(book, place, number) != plain_seen(book, plain_led(book, place, ["carry"]), number)


def least_deed_break(book, number, most):
    """How many inputs a least deed break has, by a plain search of all with so many, or None."""
    rows = [row for row in rows_from(book, 0, most) if row.count("carry") == number]
    more = list(rows_from(book, number + 1, most))
    for many in range(most + 1):
        for row in rows:
            for behind in more:
                if len(row) + len(behind) == many:
                    if any(breaks_deeds(book, number, (row, deed, behind)) for deed in plain_elder(book, number)):
                        return many
    return None


def falling():
    """A book whose deed break is long on both sides."""
    names = letters(5)
    steps = dict(zip(names, names[1:] + ["e"]))
    first = Desk(names, {"go": steps, "hit": {**{name: name for name in names}, "c": "d"}}, {name: "s" for name in names})
    second = Desk(names, {"run": steps, "stay": {name: name for name in names}}, {**{name: "s" for name in names}, "e": "t"})
    change = Change(
        first, second, dict(zip(names, "aabbb")), {"go": ["stay"], "hit": ["stay"]}, {"s": "s", "t": "s"},
    )
    return Book([first, second], [change])


class ElderDeedsTest(unittest.TestCase):
    def test_ordinary(self):
        self.assertEqual(elder_deeds(number=0, book=lamp_book()), [(0, "press"), (0, "cut")])
        for book in RIGHT + ANY:
            for number in numbers_of(book):
                self.assertEqual(elder_deeds(book, number), plain_elder(book, number))

    def test_new_each_time(self):
        book = lamp_book()
        elder_deeds(book, 0).clear()
        self.assertEqual(len(elder_deeds(book, 0)), 2)


class NumbersTest(unittest.TestCase):
    def test_wrong_numbers_come_ahead_of_all_else(self):
        for book in [Book([lamp()], []), lamp_book(), right_book(1, 3)]:
            wrong = [
                value for value in any_values() + [2, -1, -2, "0", (0,), 0.0]
                if isinstance(value, (bool, float)) or value not in list(numbers_of(book))
            ]
            for value in wrong + [book.last]:
                for call in (elder_deeds, keeps_deeds, keeps_eyes, deed_break, eyes_break):
                    refused(self, BadNumber, value, call, book, value)
                for call in (is_deed_break, is_eyes_break):
                    for other in [None, [], ([], (0, "press"), []), {}, 5]:
                        refused(self, BadNumber, value, call, book, value, other)


class RightTest(unittest.TestCase):
    def test_against_the_words(self):
        met = []
        for book in RIGHT + HALF + ANY:
            right = []
            for number in numbers_of(book):
                deeds, eyes = plain_keeps_deeds(book, number), plain_keeps_eyes(book, number)
                self.assertIs(keeps_deeds(book, number), deeds)
                self.assertIs(keeps_eyes(book, number), eyes)
                met.append((deeds, eyes))
                right += [number] if deeds and eyes else []
            self.assertEqual(right_changes(book), right)
            self.assertIs(is_right(book), len(right) == book.last)
        for both in [(True, True), (True, False), (False, True), (False, False)]:
            self.assertGreater(met.count(both), 3, both)

    def test_one_edition(self):
        book = Book([lamp()], [])
        self.assertEqual([is_right(book), right_changes(book)], [True, []])

    def test_right_in_two_and_in_three_editions(self):
        for seed in range(12):
            book = right_book(seed, 3)
            self.assertEqual([is_right(book=book), right_changes(book=book)], [True, [0, 1]])

    def test_each_change_by_itself(self):
        glow = Desk(["a", "b"], {"flip": {"a": "b", "b": "a"}}, {"a": "p", "b": "q"})
        turn = Change(glow, glow, {"a": "a", "b": "b"}, {"flip": ["flip"]}, {"p": "p", "q": "q"})
        blind, still = altered(turn, eyes={"q": "p"}), altered(turn, rows={"flip": []})
        for first, second, right in [
            (turn, turn, [0, 1]), (blind, turn, [1]), (turn, blind, [0]), (blind, blind, []), (turn, still, [0]),
            (still, turn, [1]), (blind, still, []), (still, blind, []),
        ]:
            book = Book([glow, glow, glow], [first, second])
            self.assertEqual([right_changes(book), is_right(book)], [right, len(right) == 2])

    def test_places_that_can_not_come_do_not_matter(self):
        desk = Desk(["a", "b", "c"], {"go": {"a": "b", "b": "a", "c": "c"}}, {"a": "p", "b": "q", "c": "r"})
        newer = Desk(["a", "b", "c"], {"go": {"a": "b", "b": "a", "c": "a"}}, {"a": "p", "b": "q", "c": "r"})
        same = {"a": "a", "b": "b", "c": "c"}
        change = Change(desk, newer, same, {"go": ["go"]}, {"p": "p", "q": "q", "r": "p"})
        self.assertIs(is_right(Book([desk, newer], [change])), True)
        # A standing of edition 1 can come by its own deeds alone.
        jump = Desk(
            ["a", "b", "c"], {"go": {"a": "b", "b": "a", "c": "c"}, "hop": {"a": "c", "b": "c", "c": "a"}},
            {"a": "p", "b": "q", "c": "r"},
        )
        first = Change(desk, jump, same, {"go": ["go"]}, {"p": "p", "q": "q", "r": "p"})
        second = Change(jump, jump, same, {"go": ["go"], "hop": ["hop"]}, {"p": "p", "q": "q", "r": "q"})
        book = Book([desk, jump, jump], [first, second])
        self.assertEqual(right_changes(book), [0])
        row = eyes_break(book, 1)
        self.assertEqual((len(row), row[-1]), (2, (1, "hop")))

    def test_elder_deeds_of_all_editions_before(self):
        glow = Desk(["a", "b"], {"flip": {"a": "b", "b": "a"}}, {"a": "p", "b": "q"})
        same, shine = {"a": "a", "b": "b"}, {"p": "p", "q": "q"}
        still = Change(glow, glow, same, {"flip": []}, shine)
        turn = Change(glow, glow, same, {"flip": ["flip"]}, shine)
        twice = Change(glow, glow, same, {"flip": ["flip"] * 2}, shine)
        book = Book([glow, glow, glow], [turn, still])
        self.assertEqual([keeps_deeds(book, 0), keeps_deeds(book, 1)], [True, False])
        book = Book([glow, glow, glow], [still, twice])
        self.assertEqual([keeps_deeds(book, 0), keeps_deeds(book, 1)], [False, False])
        book = Book([glow, glow, glow], [turn, turn])
        self.assertEqual(right_changes(book), [0, 1])
        book = Book([glow, glow, glow], [still, turn])
        self.assertEqual(right_changes(book), [1])

    def test_what_a_right_change_means(self):
        for book in RIGHT:
            for number in numbers_of(book):
                for place in [place for place in plain_come(book) if place[0] == number]:
                    for row in rows_from(book, number, 2):
                        if "carry" not in row:
                            self.check_carry_anywhere(book, place, row)

    def check_carry_anywhere(self, book, place, row):
        alone = plain_led(book, place, row)
        behind = [plain_led(book, place, row[:k] + ["carry"] + row[k:]) for k in range(len(row) + 1)]
        for one in behind:
            self.assertEqual(plain_seen(book, one, place[0]), plain_seen(book, alone, place[0]))
            self.assertTrue(plain_alike(book, one, behind[0]))
        self.assertEqual(seen_along(book, place, row, place[0])[-1], plain_seen(book, alone, place[0]))


class DeedBreakTest(unittest.TestCase):
    def test_least_ones(self):
        found = []
        for book in RIGHT[:6] + HALF + ANY:
            for number in numbers_of(book):
                told = deed_break(book, number)
                most = 2 if len(plain_inputs(book, book.last)) > 4 else 3
                least = least_deed_break(book, number, most)
                if told is None:
                    self.assertIsNone(least)
                    self.assertTrue(plain_keeps_deeds(book, number))
                else:
                    self.assertTrue(breaks_deeds(book, number, told), told)
                    many = len(told[0]) + len(told[2])
                    self.assertEqual(many if many <= most else None, least)
                    self.assertIs(is_deed_break(book, number, told), True)
                    found.append((len(told[0]), len(told[2])))
        self.assertGreater(len(found), 20)
        self.assertGreater(len(set(found)), 4)

    def test_long_on_both_sides(self):
        book = falling()
        told = deed_break(book, 0)
        self.assertEqual(told[:2], ([(0, "go")], (0, "go")))
        self.assertEqual(len(told[2]), 3)
        self.assertTrue(breaks_deeds(book, 0, told))
        self.assertEqual(least_deed_break(book, 0, 4), 4)

    def test_least_together_not_one_by_one(self):
        # At the start a row of two inputs behind shows it, three steps further on none is needed.
        still = {name: name for name in "abcde"}
        first = Desk(list("abcde"), {
            "go": {**still, "a": "b", "b": "c", "c": "d"}, "hit": {**still, "d": "e"},
        }, {name: "s" for name in "abcde"})
        for steps in (1, 2, 4):
            walk = dict(zip("uvwxy", "vwxyy")) | {"o": "o", "z": "z"}
            shows = {**{name: "s" for name in walk}, "y": "t", "z": "t"}
            second = Desk(list(walk), {"run": walk}, shows)
            near = "yxwvu"[steps]
            change = Change(
                first, second, {"a": "o", "b": near, "c": near, "d": near, "e": "z"}, {"go": [], "hit": []},
                {"s": "s", "t": "s"},
            )
            book = Book([first, second], [change])
            told = deed_break(book, 0)
            self.assertEqual([len(told[0]), len(told[2])], [0, steps] if steps < 3 else [3, 0])
            self.assertEqual(least_deed_break(book, 0, min(steps, 3)), min(steps, 3))

    def test_values_like_breaks(self):
        right = wrong = 0
        for book in HALF[:10] + [falling(), lamp_book()]:
            for number in numbers_of(book):
                told = deed_break(book, number)
                for value in list(variants(told)) if told else []:
                    expected = breaks_deeds(book, number, value)
                    self.assertIs(is_deed_break(book, number, value), expected, value)
                    right += expected
                    wrong += not expected
        self.assertGreater(right, 5)
        self.assertGreater(wrong, 100)

    def test_breaks_need_not_be_least(self):
        book = Book([lamp(), lamp()], [altered(Change(
            lamp(), lamp(), {"off": "off", "on": "on"}, {"press": ["press"], "cut": ["cut"]},
            {"dark": "dark", "light": "light"},
        ), rows={"cut": []})])
        press, cut = (0, "press"), (0, "cut")
        self.assertEqual(deed_break(book, 0), ([press], cut, []))
        for value, expected in [
            (([press] * 3, cut, []), True), (([press], cut, [(1, "press")]), True), (([press], cut, [(1, "cut")]), False),
            (([], cut, []), False), (([press], press, []), False), (([press, "carry"], cut, []), False),
            (([press], cut, [cut]), True),
            (([press], cut, ["carry"]), False), (([press], (1, "press"), []), False), (([press], "carry", []), False),
            (([press], (False, "cut"), []), False), (((press,), cut, []), False), (([press], cut, ()), False),
            (([press], list(cut), []), False), ([[press], cut, []], False), (([press], cut), False),
            (([press], cut, [], []), False),
            (([(1, "press")], cut, []), False), (([press], cut, [(2, "press")]), False),
            (([press] * 2001, cut, [press] * 2000), True),
        ]:
            self.assertIs(is_deed_break(book, 0, value), expected, value)

    def test_any_values(self):
        for book in (lamp_book(), falling()):
            for value in any_values() + [book, book.changes[0]]:
                self.assertIs(is_deed_break(book, 0, value), False)
                self.assertIs(is_deed_break(book, 0, (value, (0, "press"), [])), False)
                self.assertIs(is_deed_break(book, 0, ([], value, [])), False)
                if value not in ([],):
                    self.assertIs(is_deed_break(book, 0, ([(0, "go")], (0, "go"), value)), False)

    def test_new_each_time(self):
        book = falling()
        told = deed_break(book, 0)
        told[0].clear()
        told[2].clear()
        self.assertEqual([len(part) for part in deed_break(book, number=0)], [1, 2, 3])


class EyesBreakTest(unittest.TestCase):
    def test_least_ones(self):
        found = []
        for book in RIGHT[:6] + HALF + ANY:
            for number in numbers_of(book):
                told = eyes_break(book, number)
                rows = (row for row in rows_from(book, 0, 3) if breaks_eyes(book, number, row))
                plain = next(rows, None)
                if told is None:
                    self.assertIsNone(plain)
                    self.assertTrue(plain_keeps_eyes(book, number))
                else:
                    self.assertTrue(breaks_eyes(book, number, told))
                    self.assertIs(is_eyes_break(book, number, told), True)
                    self.assertEqual(len(told) if len(told) <= 3 else None, None if plain is None else len(plain))
                    found.append(len(told))
        self.assertGreater(len(found), 12)
        self.assertGreater(len(set(found)), 1)

    def test_a_long_one(self):
        names = letters(6)
        desk = Desk(names, {"go": dict(zip(names, names[1:] + ["f"]))}, {**{name: "s" for name in names}, "f": "t"})
        change = Change(desk, desk, {**{name: name for name in names}, "f": "e"}, {"go": ["go"]}, {"s": "s", "t": "t"})
        self.assertEqual(eyes_break(Book([desk, desk], [change]), number=0), [(0, "go")] * 5)
        plain = Change(desk, desk, {name: name for name in names}, {"go": ["go"]}, {"s": "s", "t": "t"})
        told = eyes_break(Book([desk, desk, desk], [plain, change]), 1)
        self.assertEqual((len(told), told.count("carry")), (6, 1))

    def test_values_like_breaks(self):
        right = wrong = 0
        for book in HALF + ANY[:8]:
            for number in numbers_of(book):
                told = eyes_break(book, number)
                for value in [*variants(told), *rows_from(book, 0, 2)] if told is not None else []:
                    expected = breaks_eyes(book, number, value)
                    self.assertIs(is_eyes_break(book, number, value), expected, value)
                    right += expected
                    wrong += not expected
        self.assertGreater(right, 5)
        self.assertGreater(wrong, 50)

    def test_any_values(self):
        book = Book([lamp(), lamp()], [Change(
            lamp(), lamp(), {"off": "off", "on": "on"}, {"press": ["press"], "cut": ["cut"]}, {"dark": "dark", "light": "dark"},
        )])
        press, cut = (0, "press"), (0, "cut")
        for value in any_values() + [book, "carry", ["carry"], [cut], [press, press], [press, "carry"], (press,), [(1, "press")]]:
            self.assertIs(is_eyes_break(book, 0, value), False)
        self.assertIs(is_eyes_break(book, 0, [press] * 2001), True)
        self.assertIs(is_eyes_break(value=[cut, press], number=0, book=book), True)
        self.assertEqual(eyes_break(book, 0), [press])
        eyes_break(book, 0).clear()
        self.assertEqual(eyes_break(book, 0), [press])

    def test_the_eyes_of_the_change_s_own_edition(self):
        desks = [Desk(["a", "b"], {"go": {"a": "b", "b": "a"}}, {"a": one, "b": other}) for one, other in ["pq", "rs", "rs"]]
        same = {"a": "a", "b": "b"}
        first = Change(desks[0], desks[1], same, {"go": ["go"]}, {"r": "p", "s": "p"})
        second = Change(desks[1], desks[2], same, {"go": ["go"]}, {"r": "r", "s": "s"})
        book = Book(desks, [first, second])
        self.assertEqual([keeps_eyes(book, 0), keeps_eyes(book, 1)], [False, True])
        book = Book(desks, [altered(first, eyes={"s": "q"}), altered(second, eyes={"s": "r"})])
        self.assertEqual([keeps_eyes(book, 0), keeps_eyes(book, 1)], [True, False])


if __name__ == "__main__":
    unittest.main()
