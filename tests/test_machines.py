import unittest

from lateeditions.books import Book, Change
from lateeditions.desks import Desk
from lateeditions.errors import BadEdition, BadInput, BadPlace
from lateeditions.machines import (
    alike_for_good, book_come, book_lots, inputs, led, parting_inputs,
)
from support import (
    all_places, any_values, dim, grow, lamp, lamp_book, letters, made_book, plain_inputs, plain_led, refused, rows_from,
)

BOOKS = [made_book(seed, 1 + seed % 3) for seed in range(30)]


def no_editions(last):
    return any_values_but([*range(last + 1)]) + [last + 1, -1, 0.0, "0", (0,), True, False]


def any_values_but(right):
    return [value for value in any_values() if isinstance(value, bool) or value not in right]


def no_places(book):
    return any_values() + [
        "off", ("off",), (0, "off", 0), [0, "off"], (True, "off"), (False, "off"), (-1, "off"), (book.last + 1, "off"),
        (0, "low"), (0, None), (0, ["off"]), ("0", "off"), (None, "off"), (1, "on"), (0.0, "off"), {0: "off"}, ((0,), "off"),
    ]


def falling():
    """A book of two editions whose shortest parting rows are long."""
    names = letters(5)
    steps = dict(zip(names, names[1:] + ["e"]))
    plain = {name: "s" for name in names}
    first = Desk(names, {"go": steps}, plain)
    second = Desk(names, {"run": steps}, {**plain, "e": "t"})
    change = Change(first, second, {name: name for name in names}, {"go": ["run"]}, {"s": "s", "t": "s"})
    return Book([first, second], [change])


class InputsTest(unittest.TestCase):
    def test_ordinary(self):
        for book in BOOKS:
            for edition in range(book.last + 1):
                self.assertEqual(inputs(book, edition), plain_inputs(book, edition))
        self.assertEqual(inputs(edition=1, book=lamp_book()), [(0, "press"), (0, "cut"), (1, "up"), (1, "down")])

    def test_wrong_editions(self):
        for value in no_editions(1):
            refused(self, BadEdition, value, inputs, lamp_book(), value)

    def test_new_each_time(self):
        book = lamp_book()
        inputs(book, 0).append("carry")
        self.assertEqual(inputs(book, 0), [(0, "press"), (0, "cut"), "carry"])


class LedTest(unittest.TestCase):
    def test_rows_of_one_to_three_editions(self):
        for book in BOOKS:
            for place in all_places(book):
                for row in rows_from(book, place[0], 3):
                    self.assertEqual(led(book, place, row), plain_led(book, place, row))

    def test_no_input_leads_nowhere(self):
        self.assertEqual(led(lamp_book(), (1, "low"), []), (1, "low"))

    def test_elder_deeds_by_rows_of_rows(self):
        names = letters(9)
        steps = dict(zip(names, names[1:] + names[:1]))
        still = {name: name for name in names}
        shows = {name: "s" for name in names}
        desks = [Desk(names, {deed: steps}, shows) for deed in ("go", "run", "fly")]
        for many, more in [(0, 16), (16, 0), (1, 1), (3, 5), (16, 16)]:
            book = Book(desks, [
                Change(desks[0], desks[1], still, {"go": ["run"] * many}, {"s": "s"}),
                Change(desks[1], desks[2], still, {"run": ["fly"] * more}, {"s": "s"}),
            ])
            self.assertEqual(led(book, (0, "a"), [(0, "go")]), (0, "b"))
            self.assertEqual(led(book, (1, "a"), [(0, "go")]), (1, names[many % 9]))
            self.assertEqual(led(book, (2, "a"), [(0, "go")]), (2, names[many * more % 9]))
            self.assertEqual(led(book, (2, "a"), [(1, "run"), (2, "fly")]), (2, names[(more + 1) % 9]))

    def test_carries(self):
        self.assertEqual(led(lamp_book(), (0, "on"), ["carry"]), (1, "high"))
        self.assertEqual(led(lamp_book(), (0, "on"), [(0, "press"), "carry", (0, "press")]), (1, "high"))
        self.assertEqual(led(row=["carry"], place=(0, "on"), book=lamp_book()), (1, "high"))

    def test_wrong_places_come_ahead_of_wrong_rows(self):
        for value in no_places(lamp_book()):
            refused(self, BadPlace, value, led, lamp_book(), value, [])
            refused(self, BadPlace, value, led, lamp_book(), value, ["burn"])

    def test_wrong_inputs(self):
        wrong = any_values() + [
            (0, "up"), (1, "up"), (True, "press"), (False, "press"), (0, "press", 0), [0, "press"], "press", (0, None),
            (0, ["press"]), ("0", "press"), (-1, "press"), (2, "up"), "Carry", ("carry",), (0, "carry"), (None, "press"),
        ]
        for value in wrong:
            refused(self, BadInput, 0, led, lamp_book(), (0, "on"), [value])
            refused(self, BadInput, 2, led, lamp_book(), (0, "on"), [(0, "press"), (0, "cut"), value, value])
        for value in any_values() + ["carry", (1, "press"), (0, "up"), (True, "up"), (2, "up"), [1, "up"]]:
            refused(self, BadInput, 1, led, lamp_book(), (0, "on"), ["carry", value])
        for value in [(-1, "up"), (-2, "press"), (2, "up"), (0, "up"), (1, "press")]:
            refused(self, BadInput, 0, led, lamp_book(), (1, "off"), [value])
        self.assertEqual((True, "up"), (1, "up"))
        refused(self, BadInput, 1, led, lamp_book(), (0, "on"), ["carry", "carry", (7, "x")])
        refused(self, BadInput, 0, led, Book([lamp()], []), (0, "on"), ["carry"])

    def test_row_stays_as_it_is(self):
        row = [(0, "press"), "carry"]
        led(lamp_book(), (0, "on"), row)
        self.assertEqual(row, [(0, "press"), "carry"])


class BookComeTest(unittest.TestCase):
    def test_against_all_rows(self):
        for book in BOOKS:
            come = [book.start]
            for place in come:
                for one in plain_inputs(book, place[0]):
                    if plain_led(book, place, [one]) not in come:
                        come.append(plain_led(book, place, [one]))
            self.assertEqual(book_come(book), [place for place in all_places(book) if place in come])

    def test_places_that_can_not_come(self):
        still = Desk(["a", "b"], {"go": {"a": "a", "b": "a"}}, {"a": "s", "b": "s"})
        change = Change(still, still, {"a": "b", "b": "a"}, {"go": []}, {"s": "s"})
        self.assertEqual(book_come(Book([still, still], [change])), [(0, "a"), (1, "a"), (1, "b")])
        stay = Desk(["a", "b"], {"go": {"a": "a", "b": "b"}}, {"a": "s", "b": "s"})
        change = Change(stay, stay, {"a": "b", "b": "a"}, {"go": []}, {"s": "s"})
        self.assertEqual(book_come(Book([stay, stay], [change])), [(0, "a"), (1, "b")])

    def test_new_each_time(self):
        book = lamp_book()
        book_come(book=book).pop()
        self.assertEqual(len(book_come(book)), 5)


class AlikeForGoodTest(unittest.TestCase):
    def test_parting_rows_are_shortest(self):
        found = 0
        for book in BOOKS:
            for one in all_places(book):
                for other in all_places(book):
                    if one[0] == other[0]:
                        row = parting_inputs(book, one, other)
                        self.check(book, one, other, row)
                        found += row is not None and len(row) > 0
        self.assertGreater(found, 20)

    def check(self, book, one, other, row):
        def sight(place):
            return book.desks[place[0]].sight(place[1])
        plain = None
        for told in rows_from(book, one[0], 4):
            if sight(plain_led(book, one, told)) != sight(plain_led(book, other, told)):
                plain = told
                break
        self.assertIs(alike_for_good(book, one, other), row is None)
        self.assertEqual(row is None, plain is None)
        if row is not None:
            self.assertEqual(len(row), len(plain))
            self.assertNotEqual(sight(plain_led(book, one, row)), sight(plain_led(book, other, row)))

    def test_long_rows_over_a_carry(self):
        book = falling()
        row = parting_inputs(book, (0, "a"), (0, "b"))
        self.assertEqual(len(row), 4)
        self.assertEqual(row.count("carry"), 1)
        self.check(book, (0, "a"), (0, "b"), row)
        self.assertEqual(parting_inputs(book, (1, "d"), (1, "e")), [])
        self.assertIs(alike_for_good(book, (0, "d"), (0, "e")), False)
        self.assertEqual(parting_inputs(book, (0, "d"), (0, "e")), ["carry"])

    def test_own_sights_not_elder_eyes(self):
        book = lamp_book()
        self.assertEqual(parting_inputs(book, (1, "low"), (1, "high")), [])
        self.assertIs(alike_for_good(other=(0, "off"), one=(0, "off"), book=book), True)
        self.assertIsNone(parting_inputs(other=(1, "low"), one=(1, "low"), book=book))

    def test_wrong_places(self):
        book = lamp_book()
        for call in (alike_for_good, parting_inputs):
            for value in no_places(book):
                refused(self, BadPlace, value, call, book, value, (0, "off"))
                refused(self, BadPlace, value, call, book, value, None)
                refused(self, BadPlace, value, call, book, (0, "off"), value)
            refused(self, BadPlace, (1, "off"), call, book, (0, "off"), (1, "off"))
            refused(self, BadPlace, (0, "off"), call, book, (1, "off"), (0, "off"))

    def test_new_each_time(self):
        book = falling()
        parting_inputs(book, (0, "c"), (0, "e")).clear()
        self.assertEqual(parting_inputs(book, (0, "c"), (0, "e")), ["carry"])


class BookLotsTest(unittest.TestCase):
    def test_lots_and_their_sequence(self):
        for book in BOOKS:
            come = book_come(book)
            places = come + [place for place in all_places(book) if place not in come]
            plain = []
            for place in places:
                home = [lot for lot in plain if lot[0][0] == place[0] and alike_for_good(book, lot[0], place)]
                if home:
                    home[0].append(place)
                else:
                    plain.append([place])
            self.assertEqual(book_lots(book), plain)

    def test_those_that_can_come_stand_ahead(self):
        stay = Desk(["a", "b", "c"], {"go": {"a": "a", "b": "b", "c": "c"}}, {"a": "s", "b": "t", "c": "s"})
        change = Change(
            stay, stay, {"a": "c", "b": "b", "c": "a"}, {"go": []}, {"s": "s", "t": "t"},
        )
        self.assertEqual(book_lots(Book([stay, stay], [change])), [
            [(0, "a"), (0, "c")], [(1, "c"), (1, "a")], [(0, "b")], [(1, "b")],
        ])

    def test_new_each_time(self):
        book = lamp_book()
        told = book_lots(book=book)
        self.assertEqual(told, [[place] for place in all_places(book)])
        told[0].append(1)
        told.pop()
        self.assertEqual(book_lots(book), [[place] for place in all_places(book)])

    def test_ordinary_objects_stay(self):
        book = lamp_book()
        book_lots(book)
        self.assertEqual(book, Book([lamp(), dim()], [grow()]))


if __name__ == "__main__":
    unittest.main()
