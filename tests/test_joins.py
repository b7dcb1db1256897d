import unittest

from lateeditions.books import Book, Change
from lateeditions.changepapers import first_wrong, is_right_table, right_table
from lateeditions.changes import is_right
from lateeditions.desks import Desk
from lateeditions.errors import BadLink, BadNumber, TooLong
from lateeditions.joins import joined, joined_table, plain_change, without_middle
from lateeditions.machines import book_lots
from support import (
    altered, dim, grow, lamp, lamp_book, letters, made_book, made_change, made_desk, plain_led, refused, right_book,
    sights_of, three,
)


def counter(deed):
    names = letters(9)
    return Desk(names, {deed: dict(zip(names, names[1:] + ["i"]))}, {name: "s" for name in names})


def steps(first, second, many):
    """A change between counters that plays the one deed by so many."""
    return Change(
        first, second, {name: name for name in first.standings}, {first.deeds[0]: [second.deeds[0]] * many}, {"s": "s"},
    )


class PlainChangeTest(unittest.TestCase):
    def test_all_stays(self):
        for desk in [lamp(), three(), dim(), *[made_desk(seed, 1 + seed % 9, 1 + seed % 4, 3) for seed in range(20)]]:
            change = plain_change(desk)
            self.assertEqual((change.first, change.second), (desk, desk))
            self.assertEqual([change.carried(one) for one in desk.standings], list(desk.standings))
            self.assertEqual([change.row(deed) for deed in desk.deeds], [[deed] for deed in desk.deeds])
            self.assertEqual([change.eye(sight) for sight in sights_of(desk)], sights_of(desk))
            self.assertTrue(is_right(Book([desk, desk], [plain_change(desk=desk)])))


class JoinedTest(unittest.TestCase):
    def test_made_changes(self):
        for seed in range(60):
            desks = [made_desk(seed + 100 * k, 2 + (seed + k) % 3, 1 + (seed + k) % 3, 3) for k in range(3)]
            first, second = made_change(seed, *desks[:2]), made_change(seed + 1, *desks[1:])
            change = joined(first, second)
            self.assertEqual((change.first, change.second), (desks[0], desks[2]))
            for one in desks[0].standings:
                self.assertEqual(change.carried(one), second.carried(first.carried(one)))
            for deed in desks[0].deeds:
                self.assertEqual(change.row(deed), sum([second.row(newer) for newer in first.row(deed)], []))
            for sight in sights_of(desks[2]):
                self.assertEqual(change.eye(sight), first.eye(second.eye(sight)))

    def test_plain_changes_do_nothing(self):
        for change in [grow(), made_change(3, three(), lamp()), made_change(4, dim(), lamp())]:
            self.assertEqual(joined(plain_change(change.first), change), change)
            self.assertEqual(joined(second=plain_change(change.second), first=change), change)

    def test_sequence_of_a_row(self):
        first = altered(grow(), rows={"press": ["up", "down", "up"]})
        second = made_change(1, dim(), lamp())
        second = altered(second, rows={"up": ["press", "cut"], "down": ["press"]})
        self.assertEqual(joined(first, second).row("press"), ["press", "cut", "press", "press", "cut"])

    def test_links(self):
        turned = Desk(["low", "off", "high"], {deed: {
            one: dim().lead(one, [deed]) for one in dim().standings
        } for deed in dim().deeds}, {one: dim().sight(one) for one in dim().standings})
        for second in [grow(), made_change(1, lamp(), dim()), made_change(2, three(), dim()), plain_change(turned)]:
            refused(self, BadLink, second, joined, grow(), second)
        self.assertEqual(joined(grow(), made_change(1, dim(), three())).second, three())

    def test_sixteen_and_seventeen(self):
        desks = [counter(deed) for deed in ("go", "run", "fly")]
        for many, more in [(0, 16), (16, 0), (16, 1), (1, 16), (4, 4), (2, 8), (5, 3)]:
            change = joined(steps(*desks[:2], many), steps(*desks[1:], more))
            self.assertEqual(change.row("go"), ["fly"] * (many * more))
        for many, more in [(2, 9), (16, 2), (16, 16), (6, 3)]:
            refused(self, TooLong, "go", joined, steps(*desks[:2], many), steps(*desks[1:], more))
        first, second = steps(*desks[:2], 0), steps(*desks[1:], 16)
        self.assertEqual(joined(altered(first, rows={"go": ["run"]}), second).row("go"), ["fly"] * 16)
        double = Desk(desks[1].standings, {
            deed: {one: one for one in desks[1].standings} for deed in ("run", "hop")
        }, {one: "s" for one in desks[1].standings})
        same = {one: one for one in desks[1].standings}
        first = Change(desks[0], double, same, {"go": ["run", "hop"]}, {"s": "s"})
        second = Change(double, desks[2], same, {"run": ["fly"] * 15, "hop": ["fly"]}, {"s": "s"})
        self.assertEqual(len(joined(first, second).row("go")), 16)
        refused(self, TooLong, "go", joined, altered(first, rows={"go": ["run", "hop", "hop"]}), second)

    def test_the_first_deed_whose_row_is_too_long(self):
        second = made_change(1, dim(), lamp())
        second = altered(second, rows={"up": ["cut"] * 4, "down": ["press"] * 9})
        for press, cut, deed in [
            (["up"] * 5, ["up"] * 5, "press"), (["up"] * 4, ["up"] * 5, "cut"), (["up"], ["down"] * 2, "cut"),
            (["down", "up", "up"], [], "press"),
        ]:
            refused(self, TooLong, deed, joined, altered(grow(), rows={"press": press, "cut": cut}), second)

    def test_links_come_first(self):
        long = altered(grow(), rows={"press": ["up"] * 16})
        refused(self, BadLink, long, joined, long, long)


class WithoutMiddleTest(unittest.TestCase):
    def test_made_books(self):
        for seed in range(40):
            book = made_book(seed, 3)
            less = without_middle(book)
            self.assertEqual(less.desks, (book.desks[0], book.desks[2]))
            self.assertEqual(less.changes, (joined(*book.changes),))
            for one in book.desks[0].standings:
                for deed in book.desks[0].deeds:
                    for row in [["carry"], ["carry", (0, deed)], [(0, deed), "carry", (0, deed)]]:
                        behind = plain_led(book, (0, one), sum([[part] * (1 + (part == "carry")) for part in row], []))
                        self.assertEqual(plain_led(less, (0, one), row), (1, behind[1]))

    def test_refused(self):
        for book in [Book([lamp()], []), lamp_book(), made_book(2, 2)]:
            refused(self, BadNumber, 1, without_middle, book)
            refused(self, BadNumber, 1, joined_table, book, [])
        desks = [counter(deed) for deed in ("go", "run", "fly")]
        book = Book(desks, [steps(*desks[:2], 3), steps(*desks[1:], 6)])
        refused(self, TooLong, "go", without_middle, book)
        refused(self, TooLong, "go", joined_table, book, [[book.start]])
        self.assertEqual(without_middle(book=Book(desks, [steps(*desks[:2], 4), steps(*desks[1:], 4)])).last, 1)

    def test_right_books_stay_right(self):
        for seed in range(20):
            self.assertTrue(is_right(without_middle(right_book(seed, 3))))


class JoinedTableTest(unittest.TestCase):
    def test_right_tables(self):
        for seed in range(20):
            book = right_book(seed, 3)
            less = without_middle(book)
            for table in [right_table(book), right_table(book)[::-1], [lot[::-1] for lot in right_table(book)]]:
                self.assertTrue(is_right_table(book, table))
                told = joined_table(book, table)
                self.assertIsNone(first_wrong(less, told))
                plain = [[({0: 0, 2: 1}[e], one) for e, one in lot] for lot in table if lot[0][0] != 1]
                self.assertEqual(told, plain)

    def test_tables_with_places_that_can_not_come(self):
        met = 0
        for seed in range(20):
            book = right_book(seed, 3)
            table = book_lots(book)
            if is_right_table(book, table):
                met += 1
                told = joined_table(table=table, book=book)
                self.assertTrue(is_right_table(without_middle(book), told))
                self.assertEqual(len(told), len([lot for lot in table if lot[0][0] != 1]))
        self.assertGreater(met, 4)

    def test_new_and_the_table_stays(self):
        book = right_book(2, 3)
        table = right_table(book)
        told = joined_table(book, table)
        told[0].append(1)
        told.clear()
        self.assertEqual(table, right_table(book))
        self.assertEqual(joined_table(book, table)[0], [(0, place[1]) for place in table[0]])


if __name__ == "__main__":
    unittest.main()
