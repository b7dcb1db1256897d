import unittest

from lateeditions.books import Book, Change
from lateeditions.desks import Desk
from lateeditions.errors import (
    BadChanges, BadDeed, BadDesks, BadEyes, BadPlaces, BadRows, BadSight, BadStanding,
)
from support import any_values, dim, grow, lamp, lamp_book, letters, made_book, made_change, made_desk, refused, three

PLACES = {"off": "off", "on": "high"}
ROWS = {"press": ["up", "up"], "cut": ["down", "down"]}
EYES = {"dark": "dark", "half": "light", "light": "light"}


class MakingAChangeTest(unittest.TestCase):
    def test_rows_of_none_to_sixteen_deeds(self):
        for many in (0, 1, 15, 16):
            change = Change(lamp(), dim(), PLACES, {"press": ["up"] * many, "cut": ("down",) * many}, EYES)
            self.assertEqual([change.row("press"), change.row("cut")], [["up"] * many, ["down"] * many])
        for many in (17, 18, 1000):
            for rows in [{"press": ["up"] * many, "cut": []}, {"press": [], "cut": ("up",) * many}]:
                refused(self, BadRows, rows, Change, lamp(), dim(), PLACES, rows, EYES)

    def test_ends(self):
        one = Desk(["a"], {"go": {"a": "a"}}, {"a": "s"})
        self.assertEqual(Change(one, one, {"a": "a"}, {"go": []}, {"s": "s"}).row("go"), [])
        names = letters(9)
        steps = {name: name for name in names}
        nine = Desk(names, {deed: steps for deed in "abcd"}, steps)
        change = Change(nine, nine, steps, {deed: list("abcd") for deed in "abcd"}, steps)
        self.assertEqual([change.carried("i"), change.row("d"), change.eye("i")], ["i", list("abcd"), "i"])

    def test_wrong_places(self):
        wrong = any_values() + [
            {"off": "off"}, {**PLACES, "lit": "off"}, {"off": "off", "lit": "high"}, {**PLACES, "on": "on"},
            {**PLACES, "on": None}, {**PLACES, "on": ["high"]}, {"off": "off", 1: "high"}, [("off", "off"), ("on", "high")],
            {**PLACES, "on": 1}, {**PLACES, "on": ("high",)}, ["off", "on"],
        ]
        for value in wrong:
            refused(self, BadPlaces, value, Change, lamp(), dim(), value, ROWS, EYES)

    def test_wrong_rows(self):
        wrong = any_values() + [
            {"press": []}, {**ROWS, "hop": []}, {"press": [], "hop": []}, {**ROWS, "cut": "down"}, {**ROWS, "cut": None},
            {**ROWS, "cut": ["cut"]}, {**ROWS, "cut": ["down", None]}, {**ROWS, "cut": ["down", ["up"]]},
            {**ROWS, "cut": {"down": 1}}, {"press": [], 1: []}, [("press", []), ("cut", [])], {**ROWS, "cut": [1]},
            {**ROWS, "press": ["up", "off"]},
        ]
        for value in wrong:
            refused(self, BadRows, value, Change, lamp(), dim(), PLACES, value, EYES)

    def test_wrong_eyes(self):
        wrong = any_values() + [
            {"dark": "dark", "light": "light"}, {**EYES, "red": "dark"}, {**EYES, "half": "half"}, {**EYES, "half": None},
            {"dark": "dark", "half": "light", "red": "light"}, {**EYES, "half": ["light"]}, {**EYES, "half": "off"},
            {"dark": "dark", "half": "light", 1: "light"}, [("dark", "dark")], {**EYES, 1: "dark"},
        ]
        for value in wrong:
            refused(self, BadEyes, value, Change, lamp(), dim(), PLACES, ROWS, value)

    def test_eyes_are_of_sights_that_standings_have(self):
        steps = {"off": "off", "on": "off"}
        plain = Desk(["off", "on"], {"go": steps}, {"off": "dark", "on": "dark"})
        eyes = {"dark": "light"}
        self.assertEqual(Change(lamp(), plain, steps, {"press": [], "cut": []}, eyes).eye("dark"), "light")
        wrong = {"dark": "dark", "light": "light"}
        refused(self, BadEyes, wrong, Change, lamp(), plain, steps, {"press": [], "cut": []}, wrong)
        wrong = {"dark": "light", "light": "light"}
        refused(self, BadEyes, wrong, Change, plain, lamp(), steps, {"go": []}, wrong)
        never = Desk(["off", "on"], {"go": steps}, {"off": "dark", "on": "red"})
        eyes = {"dark": "red", "red": "red"}
        self.assertEqual(Change(never, never, steps, {"go": []}, eyes).eye("dark"), "red")

    def test_the_first_wrong_one_is_told(self):
        refused(self, BadPlaces, None, Change, lamp(), dim(), None, None, None)
        refused(self, BadPlaces, None, Change, lamp(), dim(), None, ROWS, None)
        refused(self, BadRows, None, Change, lamp(), dim(), PLACES, None, None)

    def test_what_was_handed_in_is_copied_and_kept(self):
        places, eyes = dict(PLACES), dict(EYES)
        rows = {"press": ["up", "up"], "cut": ["down", "down"]}
        change = Change(lamp(), dim(), places, rows, eyes)
        self.assertEqual((places, rows, eyes), (PLACES, ROWS, EYES))
        places["off"] = "low"
        rows["press"].append("down")
        rows["cut"] = []
        eyes["half"] = "dark"
        self.assertEqual(change, grow())
        self.assertEqual([change.carried("off"), change.row("press"), change.row("cut"), change.eye("half")], [
            "off", ["up", "up"], ["down", "down"], "light",
        ])

    def test_by_name(self):
        change = Change(eyes=EYES, rows=ROWS, places=PLACES, second=dim(), first=lamp())
        self.assertEqual(change, grow())
        self.assertEqual([change.carried(standing="on"), change.row(deed="cut"), change.eye(sight="half")], [
            "high", ["down", "down"], "light",
        ])


class TellingsOfAChangeTest(unittest.TestCase):
    def test_ordinary(self):
        change = grow()
        self.assertEqual([change.first, change.second], [lamp(), dim()])
        self.assertEqual([change.carried("off"), change.carried("on")], ["off", "high"])
        self.assertEqual([change.eye(sight) for sight in ("dark", "half", "light")], ["dark", "light", "light"])

    def test_rows_are_new_lists(self):
        change = grow()
        change.row("press").append("down")
        self.assertEqual(change.row("press"), ["up", "up"])

    def test_errors(self):
        for value in any_values():
            refused(self, BadStanding, value, grow().carried, value)
            refused(self, BadDeed, value, grow().row, value)
            refused(self, BadSight, value, grow().eye, value)
        refused(self, BadStanding, "low", grow().carried, "low")
        refused(self, BadDeed, "up", grow().row, "up")
        refused(self, BadSight, "off", grow().eye, "off")

    def test_equal(self):
        self.assertTrue(grow() == grow())
        self.assertFalse(grow() != grow())
        tuples = {deed: tuple(row) for deed, row in reversed(ROWS.items())}
        self.assertTrue(grow() == Change(lamp(), dim(), PLACES, tuples, EYES))
        others = [
            Change(lamp(), dim(), {"off": "off", "on": "low"}, ROWS, EYES),
            Change(lamp(), dim(), PLACES, {**ROWS, "cut": ["down"]}, EYES),
            Change(lamp(), dim(), PLACES, ROWS, {**EYES, "half": "dark"}),
            Change(lamp(), lamp(), {"off": "off", "on": "on"}, {"press": [], "cut": []}, {"dark": "dark", "light": "light"}),
        ]
        for other in others:
            self.assertTrue(grow() != other)
            self.assertFalse(grow() == other)
        for value in any_values():
            self.assertIs(grow() == value, False)

    def test_other_desks(self):
        steps = {"off": "off", "on": "off"}
        twin = Desk(["off", "on"], {"press": steps, "cut": steps}, {"off": "dark", "on": "light"})
        told = [PLACES, ROWS, EYES]
        self.assertFalse(Change(twin, dim(), *told) == grow())
        late = Desk(
            ["off", "low", "high"], {deed: {one: one for one in ("off", "low", "high")} for deed in ("up", "down")},
            {"off": "dark", "low": "half", "high": "light"},
        )
        self.assertFalse(Change(lamp(), late, *told) == grow())


class BookTest(unittest.TestCase):
    def test_ordinary(self):
        book = lamp_book()
        self.assertEqual((book.desks, book.changes), ((lamp(), dim()), (grow(),)))
        self.assertIsInstance(book.desks, tuple)
        self.assertIsInstance(book.changes, tuple)
        self.assertEqual((book.last, book.start), (1, (0, "off")))

    def test_one_to_three_editions_and_tuples(self):
        for many in (1, 2, 3):
            book = made_book(5, many)
            self.assertEqual(book.last, many - 1)
            self.assertEqual(book, Book(tuple(book.desks), list(book.changes)))
            self.assertEqual(book, Book(list(book.desks), tuple(book.changes)))
            self.assertEqual(book, Book(changes=book.changes, desks=book.desks))
        self.assertEqual(Book([three()], ()).start, (0, "off"))
        back = made_change(1, made_desk(1, 2, 1, 1), lamp())
        self.assertEqual(Book([back.first, lamp()], [back]).start, (0, "a"))

    def test_wrong_desks(self):
        wrong = any_values() + [
            [], (), lamp(), [lamp(), None], [lamp(), grow()], [lamp(), [dim()]], {0: lamp()}, [lamp()] * 4, (lamp(),) * 4,
            [lamp(), "dim"],
        ]
        for value in wrong:
            if value not in ([lamp()], (lamp(),)):
                refused(self, BadDesks, value, Book, value, [])
                refused(self, BadDesks, value, Book, value, None)

    def test_wrong_changes(self):
        back = made_change(1, dim(), lamp())
        wrong = any_values() + [
            [grow(), grow()], [back], [None], grow(), {0: grow()}, [lamp()], [made_change(1, lamp(), lamp())],
            [made_change(1, dim(), dim())], ["carry"], [[grow()]],
        ]
        for value in wrong:
            refused(self, BadChanges, value, Book, [lamp(), dim()], value)
            if value not in ([], ()):
                refused(self, BadChanges, value, Book, [lamp()], value)
        value = [back, grow()]
        refused(self, BadChanges, value, Book, [lamp(), dim(), lamp()], value)
        self.assertEqual(Book([lamp(), dim(), lamp()], [grow(), back]).last, 2)

    def test_desks_are_compared_by_equality(self):
        first, second = lamp(), dim()
        self.assertEqual(Book([first, second], [grow()]), lamp_book())
        turned = Desk(["on", "off"], {
            "press": {"off": "on", "on": "off"}, "cut": {"off": "off", "on": "off"},
        }, {"off": "dark", "on": "light"})
        value = [grow()]
        refused(self, BadChanges, value, Book, [turned, dim()], value)

    def test_what_was_handed_in_is_copied_and_kept(self):
        desks, changes = [lamp(), dim()], [grow()]
        book = Book(desks, changes)
        desks.pop()
        changes.clear()
        self.assertEqual(book, lamp_book())

    def test_equal(self):
        self.assertTrue(lamp_book() == lamp_book())
        self.assertFalse(lamp_book() != lamp_book())
        other = Change(lamp(), dim(), PLACES, {**ROWS, "cut": []}, EYES)
        self.assertFalse(lamp_book() == Book([lamp(), dim()], [other]))
        self.assertFalse(Book([lamp()], []) == Book([three()], []))
        self.assertFalse(Book([lamp()], []) == lamp_book())
        for value in any_values() + [grow(), lamp()]:
            self.assertIs(lamp_book() == value, False)

    def test_made_again(self):
        for seed in range(10):
            self.assertEqual(made_book(seed, 3), made_book(seed, 3))
            self.assertNotEqual(made_desk(seed, 3, 2, 2), made_book(seed, 3))


if __name__ == "__main__":
    unittest.main()
