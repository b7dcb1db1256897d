import unittest

from lateeditions.books import Book, Change
from lateeditions.desks import Desk
from lateeditions.errors import BadEdition, BadInput, BadPlace
from lateeditions.eyes import seen, seen_along
from support import all_places, any_values, lamp, lamp_book, made_book, plain_led, plain_seen, refused, rows_from

BOOKS = [made_book(seed, 1 + seed % 3) for seed in range(24)]


class SeenTest(unittest.TestCase):
    def test_books_of_one_to_three_editions(self):
        for book in BOOKS:
            for place in all_places(book):
                for edition in range(place[0] + 1):
                    self.assertEqual(seen(book, place, edition), plain_seen(book, place, edition))
                    self.assertIn(seen(book, place, edition), [
                        book.desks[edition].sight(one) for one in book.desks[edition].standings
                    ])

    def test_led_back_change_by_change(self):
        desks = [Desk(["a", "b"], {"go": {"a": "b", "b": "a"}}, {"a": one, "b": other}) for one, other in ["pq", "rs", "tu"]]
        same = {"a": "a", "b": "b"}
        book = Book(desks, [
            Change(desks[0], desks[1], same, {"go": []}, {"r": "q", "s": "p"}),
            Change(desks[1], desks[2], same, {"go": []}, {"t": "s", "u": "s"}),
        ])
        self.assertEqual([seen(book, (2, "b"), edition) for edition in (2, 1, 0)], ["u", "s", "p"])
        self.assertEqual([seen(book, (1, "a"), edition) for edition in (1, 0)], ["r", "q"])
        self.assertEqual(seen(edition=0, place=(0, "b"), book=book), "q")

    def test_errors(self):
        book = lamp_book()
        for value in any_values() + [(0, "low"), (True, "off"), [0, "off"], (2, "off"), (0, "off", 1), "off"]:
            refused(self, BadPlace, value, seen, book, value, 0)
            refused(self, BadPlace, value, seen, book, value, None)
        for value in any_values() + [2, -1, "0", [0], 0.0]:
            if isinstance(value, bool) or value not in (0, 1):
                refused(self, BadEdition, value, seen, book, (1, "off"), value)
            if isinstance(value, bool) or value != 0:
                refused(self, BadEdition, value, seen, book, (0, "off"), value)


class SeenAlongTest(unittest.TestCase):
    def test_against_single_steps(self):
        for book in BOOKS:
            for place in all_places(book):
                for row in rows_from(book, place[0], 2):
                    places = [plain_led(book, place, row[:k]) for k in range(len(row) + 1)]
                    for edition in range(place[0] + 1):
                        told = [plain_seen(book, one, edition) for one in places]
                        self.assertEqual(seen_along(book, place, row, edition), told)

    def test_ordinary(self):
        book = lamp_book()
        self.assertEqual(seen_along(book, (1, "low"), [], 1), ["half"])
        row = [(0, "cut"), (1, "up"), (1, "up")]
        self.assertEqual(seen_along(edition=0, row=row, place=(1, "low"), book=book), ["light", "dark", "light", "light"])
        self.assertEqual(seen_along(book, (1, "low"), row, 1), ["half", "dark", "half", "light"])
        self.assertEqual(row, [(0, "cut"), (1, "up"), (1, "up")])

    def test_which_error_comes_first(self):
        book = lamp_book()
        for value in any_values():
            refused(self, BadPlace, value, seen_along, book, value, ["burn"], None)
        refused(self, BadPlace, (2, "off"), seen_along, book, (2, "off"), ["burn"], 3)
        refused(self, BadEdition, 1, seen_along, book, (0, "off"), ["burn"], 1)
        refused(self, BadEdition, 1, seen_along, book, (0, "off"), ["carry"], 1)
        refused(self, BadEdition, True, seen_along, book, (1, "off"), ["burn"], True)
        for value in any_values() + [(1, "up"), "press"]:
            refused(self, BadInput, 1, seen_along, book, (0, "off"), [(0, "press"), value, value], 0)
        refused(self, BadInput, 1, seen_along, book, (0, "off"), ["carry", "carry"], 0)
        refused(self, BadInput, 0, seen_along, Book([lamp()], []), (0, "off"), ["carry"], 0)

    def test_new_each_time(self):
        book = lamp_book()
        seen_along(book, (0, "off"), ["carry"], 0).clear()
        self.assertEqual(seen_along(book, (0, "off"), ["carry"], 0), ["dark", "dark"])


if __name__ == "__main__":
    unittest.main()
