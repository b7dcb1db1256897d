import unittest

from lateeditions.books import Book, Change
from lateeditions.changepapers import break_of, first_wrong, is_right_table, right_table
from lateeditions.changes import deed_break, eyes_break, is_deed_break, is_eyes_break, is_right
from lateeditions.desks import Desk
from lateeditions.machines import book_come, book_lots
from support import (
    all_places, altered, any_values, half_right_books, lamp, lamp_book, made_book, plain_alike, plain_come,
    plain_inputs, plain_led, plain_seen, plain_sight, right_book, variants,
)

RIGHT = [right_book(seed, 1 + seed % 3) for seed in range(18)]
OTHER = list(half_right_books(24)) + [made_book(seed, 1 + seed % 3) for seed in range(12)]


def is_place_of(book, value):
    if value.__class__ is not tuple or [part.__class__ for part in value] != [int, str]:
        return False
    return value in all_places(book)


def plain_first_wrong(book, value):
    """What is first wrong of a value as a right table, by the words of the document."""
    if value.__class__ is not list or any(lot.__class__ is not list or lot == [] for lot in value):
        return ("form",)
    places = [place for lot in value for place in lot]
    if not all(is_place_of(book, place) for place in places) or len(set(places)) < len(places):
        return ("form",)
    if book.start not in places:
        return ("start",)

    def lot_of(place):
        return next((lot for lot in value if place in lot), None)

    for lot in value:
        for place in lot:
            edition = place[0]
            if edition != lot[0][0] or plain_sight(book, place) != plain_sight(book, lot[0]):
                return ("sight", place)
            for one in plain_inputs(book, edition):
                home = lot_of(plain_led(book, lot[0], [one]))
                if home is None or plain_led(book, place, [one]) not in home:
                    return ("input", place, one)
            if edition < book.last:
                for one in plain_inputs(book, edition)[:-1]:
                    home = lot_of(plain_led(book, place, [one, "carry"]))
                    if home is None or plain_led(book, place, ["carry", one]) not in home:
                        return ("deed", place, one)
                if plain_seen(book, place, edition) != plain_seen(book, plain_led(book, place, ["carry"]), edition):
                    return ("eyes", place)
    return None


def tables_beside(table):
    """Tables with a lot more or less, lots put together or parted, places exchanged, and other sequences."""
    yield table[::-1]
    yield [lot[::-1] for lot in table]
    yield [[place for lot in table for place in lot]]
    yield [[place] for lot in table for place in lot]
    for k in range(len(table)):
        yield table[:k] + table[k + 1:]
        yield table + [table[k]]
        yield table[:k] + [table[k][1:]] + table[k + 1:]
        yield [[*table[k], *table[j]] for j in range(len(table)) if j != k]
        yield table[k:] + table[:k]
        for j in range(k):
            rest = [lot for at, lot in enumerate(table) if at not in (j, k)]
            yield rest + [table[j] + table[k]]
            yield rest + [[table[k][0]] + table[j][1:], [table[j][0]] + table[k][1:]]
        if len(table[k]) > 1:
            yield table[:k] + [table[k][:1], table[k][1:]] + table[k + 1:]


def whole_table(book):
    """The table of all places alike for good, those that can not come, too."""
    return book_lots(book)


class RightTableTest(unittest.TestCase):
    def test_the_table_that_is_told(self):
        lots = 0
        for book in RIGHT + OTHER:
            told = right_table(book)
            if not is_right(book):
                self.assertIsNone(told)
            else:
                plain = []
                for place in [place for place in all_places(book) if place in plain_come(book)]:
                    home = [lot for lot in plain if lot[0][0] == place[0] and plain_alike(book, lot[0], place)]
                    if home:
                        home[0].append(place)
                        lots += 1
                    else:
                        plain.append([place])
                self.assertEqual(told, plain)
                self.assertIs(is_right_table(book, told), True)
                self.assertIsNone(first_wrong(book, told))
        self.assertGreater(lots, 20)

    def test_sequence(self):
        # The start is not the first standing of edition 1 that comes, nor the first one of its lot.
        first = Desk(["a", "b", "c"], {"go": {"a": "c", "b": "a", "c": "b"}}, {"a": "p", "b": "q", "c": "p"})
        second = Desk(
            ["d", "e", "f", "g"], {"run": {"d": "g", "e": "f", "f": "g", "g": "e"}}, {"d": "p", "e": "p", "f": "p", "g": "q"},
        )
        change = Change(first, second, {"a": "e", "b": "g", "c": "f"}, {"go": ["run"]}, {"p": "p", "q": "q"})
        told = right_table(book=Book([first, second], [change]))
        self.assertEqual(told, [[(0, "a")], [(0, "b")], [(0, "c")], [(1, "e")], [(1, "f")], [(1, "g")]])

    def test_just_the_places_that_can_come(self):
        for book in RIGHT:
            self.assertEqual(sorted(place for lot in right_table(book) for place in lot), sorted(book_come(book)))

    def test_new_each_time(self):
        book = right_book(3, 2)
        whole = right_table(book)
        told = right_table(book)
        told[0].append(1)
        told.pop()
        self.assertEqual(right_table(book), whole)

    def test_one_edition(self):
        self.assertEqual(right_table(Book([lamp()], [])), [[(0, "off")], [(0, "on")]])


class FirstWrongTest(unittest.TestCase):
    def check(self, book, value):
        expected = plain_first_wrong(book, value)
        self.assertEqual(first_wrong(book, value), expected, value)
        self.assertIs(is_right_table(book, value), expected is None)
        return expected

    def test_tables_beside_right_ones(self):
        met = []
        for book in RIGHT:
            for table in [right_table(book), whole_table(book)]:
                for value in tables_beside(table):
                    met.append(self.check(book, value))
        words = [wrong and wrong[0] for wrong in met]
        for word in [None, "form", "start", "sight", "input"]:
            self.assertGreater(words.count(word), 15, word)

    def test_tables_of_books_that_are_not_right(self):
        words = []
        for book in OTHER:
            places = [place for place in all_places(book) if place in plain_come(book)]
            for table in [[[place] for place in places], whole_table(book), [[place] for place in all_places(book)]]:
                words.append((self.check(book, table) or (None,))[0])
                words.append((self.check(book, table[::-1]) or (None,))[0])
                for value in list(tables_beside(table))[:12]:
                    words.append((self.check(book, value) or (None,))[0])
        for word in [None, "form", "start", "sight", "input", "deed", "eyes"]:
            self.assertGreater(words.count(word), 8, word)

    def test_variants(self):
        for book in RIGHT[:3] + OTHER[:2]:
            table = [[place] for place in all_places(book) if place in plain_come(book)]
            for value in list(variants(right_table(book) or table))[::3]:
                self.check(book, value)

    def test_form(self):
        book = lamp_book()
        off, on = (0, "off"), (0, "on")
        for value in any_values() + [
            [[]], [[off], []], [[off, off]], [[off], [off]], [[off], (on,)], ([off],), [off], [["off"]], [[[0, "off"]]],
            [[(False, "off")]], [[(0, "low")]], [[(2, "off")]], [[(-1, "off")]], [[(0, "off", 1)]], [[off], None],
            {0: [off]}, [{off: on}], [[(1, "on")]], [[(0, ["off"])]], [[off], [(None, None)]],
        ]:
            if value != []:
                self.assertEqual(first_wrong(book, value), ("form",))
            self.assertIs(is_right_table(book, value), False)
        self.assertEqual(first_wrong(book, []), ("start",))
        self.assertEqual(first_wrong(book, [[on], [(1, "off")]]), ("start",))
        self.assertEqual(first_wrong(value=[[on], []], book=book), ("form",))

    def test_which_comes_first(self):
        still = Desk(["a", "b"], {"go": {"a": "a", "b": "b"}}, {"a": "p", "b": "q"})
        same, shine = {"a": "a", "b": "b"}, {"p": "p", "q": "q"}
        plain = Change(still, still, same, {"go": ["go"]}, shine)
        book = Book([still, still], [plain])
        a, b, c, d = all_places(book)
        self.assertIs(is_right_table(book, [[c], [a]]), True)
        self.assertIs(is_right_table(book, [[a], [b], [c], [d]]), True)
        self.assertEqual(first_wrong(book, [[a], [b], [c]]), ("input", b, "carry"))
        self.assertEqual(first_wrong(book, [[b], [a], [c]]), ("input", b, "carry"))
        self.assertEqual(first_wrong(book, [[d], [a, b]]), ("input", a, "carry"))
        self.assertEqual(first_wrong(book, [[d], [c, a]]), ("sight", a))
        self.assertEqual(first_wrong(book, [[c], [a, c]]), ("form",))
        self.assertEqual(first_wrong(book, [[c], [a, b], [d]]), ("sight", b))
        turn = Desk(["a", "b"], {"go": {"a": "b", "b": "a"}}, {"a": "p", "b": "q"})
        moved = Change(still, turn, same, {"go": ["go"]}, {"p": "q", "q": "q"})
        book = Book([still, turn], [moved])
        self.assertEqual(first_wrong(book, [[a], [c], [d]]), ("deed", a, (0, "go")))
        self.assertEqual(first_wrong(book, [[c], [d], [a]]), ("deed", a, (0, "go")))
        calm = Book([still, turn], [altered(moved, rows={"go": []})])
        self.assertEqual(first_wrong(calm, [[a], [c], [d]]), ("eyes", a))
        self.assertEqual(first_wrong(calm, [[a], [c]]), ("eyes", a))
        self.assertEqual(first_wrong(calm, [[c], [a]]), ("input", c, (1, "go")))

    def test_deeds_of_places_that_do_not_stand_there(self):
        # Behind the deed and the carry the place is one that a later lot leads to, and no lot has.
        walk = Desk(["a", "b"], {"go": {"a": "b", "b": "b"}}, {"a": "p", "b": "p"})
        newer = Desk(["c", "d"], {"run": {"c": "c", "d": "d"}}, {"c": "p", "d": "p"})
        change = Change(walk, newer, {"a": "c", "b": "d"}, {"go": []}, {"p": "p"})
        book = Book([walk, newer], [change])
        table = [[(0, "a")], [(0, "b")], [(1, "c")]]
        self.assertEqual(first_wrong(book, table), ("deed", (0, "a"), (0, "go")))
        self.assertEqual(first_wrong(book, table[1:] + table[:1]), ("input", (0, "b"), "carry"))
        self.assertEqual(first_wrong(book, [[(0, "a"), (0, "b")], [(1, "d"), (1, "c")]]), None)
        # Both ways lead to one place, but no lot has it.
        both = Book([walk, newer], [altered(change, places={"a": "d"})])
        self.assertEqual(first_wrong(both, [[(0, "a")], [(0, "b")], [(1, "c")]]), ("input", (0, "a"), "carry"))

    def test_all_inputs_in_their_sequence(self):
        book = lamp_book()
        places = [[place] for place in all_places(book)]
        self.assertEqual(first_wrong(book, places), ("deed", (0, "on"), (0, "press")))
        self.assertEqual(first_wrong(book, places[:1]), ("input", (0, "off"), (0, "press")))
        self.assertEqual(first_wrong(book, [places[0], places[1]]), ("input", (0, "off"), "carry"))
        self.assertEqual(first_wrong(book, places[2:4] + places[:2]), ("input", (1, "off"), (0, "press")))


class BreakOfTest(unittest.TestCase):
    def test_the_first_change_that_is_not_right(self):
        met = []
        for book in RIGHT + OTHER:
            told = break_of(book)
            plain = None
            for number in range(book.last):
                for word, found in [("deed", deed_break(book, number)), ("eyes", eyes_break(book, number))]:
                    if plain is None and found is not None:
                        plain = (number, word, found)
            self.assertEqual(told is None, is_right(book))
            if told is None:
                self.assertIsNone(plain)
            else:
                self.assertEqual(told[:2], plain[:2])
                is_break = is_deed_break if told[1] == "deed" else is_eyes_break
                self.assertTrue(is_break(book, told[0], told[2]))
                self.assertEqual(self.size(told), self.size(plain))
                met.append(told[:2])
        for both in [(0, "deed"), (0, "eyes"), (1, "deed")]:
            self.assertIn(both, met)

    def size(self, told):
        return len(told[2][0]) + len(told[2][2]) if told[1] == "deed" else len(told[2])

    def test_deeds_ahead_of_eyes(self):
        glow = Desk(["a", "b"], {"flip": {"a": "b", "b": "a"}}, {"a": "p", "b": "q"})
        turn = Change(glow, glow, {"a": "a", "b": "b"}, {"flip": ["flip"]}, {"p": "p", "q": "q"})
        blind = altered(turn, eyes={"p": "q"})
        both = altered(blind, rows={"flip": []})
        deeds = ([], (0, "flip"), [])
        self.assertEqual(break_of(Book([glow, glow], [both])), (0, "deed", deeds))
        self.assertEqual(break_of(book=Book([glow, glow], [blind])), (0, "eyes", []))
        self.assertEqual(break_of(Book([glow] * 3, [turn, blind])), (1, "eyes", ["carry"]))
        self.assertEqual(break_of(Book([glow] * 3, [turn, both])), (1, "deed", (["carry"], (0, "flip"), [])))
        self.assertIsNone(break_of(Book([glow] * 3, [turn, turn])))
        self.assertEqual(break_of(Book([glow] * 3, [blind, both])), (0, "eyes", []))


if __name__ == "__main__":
    unittest.main()
