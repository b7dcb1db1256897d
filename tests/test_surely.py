import unittest

from lateeditions.desks import Desk
from lateeditions.errors import BadStandings
from lateeditions.likeness import alike
from lateeditions.surely import sure_row, telling_row
from support import any_values, check_shortest, lamp, letters, made_desk, refused, three


def brings_together(desk, standings):
    def found(row):
        behind = [desk.lead(one, row) for one in standings]
        return all(alike(desk, behind[0], one) for one in behind)
    return found


def sights_along(desk, one, row):
    return [desk.sight(desk.lead(one, row[:k])) for k in range(len(row) + 1)]


def tells(desk, standings):
    def found(row):
        return all(
            alike(desk, desk.lead(one, row), desk.lead(other, row))
            for one in standings for other in standings
            if sights_along(desk, one, row) == sights_along(desk, other, row)
        )
    return found


def lists_of(desk):
    names = list(desk.standings)
    return [names[:1], names[:2], names[-3:], names[::-1]]


class SureRowTest(unittest.TestCase):
    def test_made_desks(self):
        for seed in range(60):
            desk = made_desk(seed, 1 + seed % 4, 2, 1 + seed % 3)
            for standings in lists_of(desk):
                row = sure_row(desk, standings)
                check_shortest(self, row, desk.deeds, 9, brings_together(desk, standings))

    def test_the_longest_row_of_four(self):
        turn = {"a": "b", "b": "c", "c": "d", "d": "a"}
        join = {"a": "b", "b": "b", "c": "c", "d": "d"}
        desk = Desk(list("abcd"), {"turn": turn, "join": join}, {"a": "p", "b": "q", "c": "r", "d": "s"})
        row = sure_row(desk, ["a", "b", "c", "d"])
        self.assertEqual(len(row), 9)
        check_shortest(self, row, desk.deeds, 9, brings_together(desk, ["a", "b", "c", "d"]))

    def test_one_and_nine(self):
        names = letters(9)
        still = Desk(names, {"stay": {name: name for name in names}}, {name: name for name in names})
        self.assertEqual([sure_row(still, ["c"]), sure_row(still, names)], [[], None])
        fall = Desk(names, {"fall": dict(zip(names, names[1:] + ["i"]))}, {name: name for name in names})
        self.assertEqual(sure_row(fall, names), ["fall"] * 8)

    def test_alike_at_first(self):
        self.assertEqual(sure_row(three(), ["on", "lit"]), [])

    def test_wrong_values(self):
        wrong = [
            ["on", "on"], ["on", "nosuch"], ("off", "on"), "on", ["on", None], ["on", ["off"]], {"on": 1}, [],
            ["off", "on", "off"],
        ]
        for value in any_values() + wrong:
            refused(self, BadStandings, value, sure_row, lamp(), value)
            refused(self, BadStandings, value, telling_row, lamp(), value)

    def test_by_name_new_and_unchanged(self):
        standings = ["on", "off"]
        sure_row(standings=standings, desk=lamp()).append("press")
        telling_row(standings=standings, desk=lamp()).append("press")
        self.assertEqual([sure_row(lamp(), standings), telling_row(lamp(), standings)], [["cut"], []])
        self.assertEqual(standings, ["on", "off"])


class TellingRowTest(unittest.TestCase):
    def test_made_desks(self):
        for seed in range(80):
            desk = made_desk(seed, 1 + seed % 5, 2, 2)
            for standings in lists_of(desk):
                row = telling_row(desk, standings)
                check_shortest(self, row, desk.deeds, 8, tells(desk, standings))

    def test_sights_along_the_way_count(self):
        steps = {"a": "b", "b": "a", "c": "a"}
        desk = Desk(["a", "b", "c"], {"go": steps}, {"a": "s", "b": "t", "c": "s"})
        self.assertEqual(telling_row(desk, ["a", "c"]), ["go"])
        self.assertEqual(telling_row(desk, ["a", "b"]), [])

    def test_six_of_nine(self):
        names = letters(9)
        turn = dict(zip(names, names[1:] + names[:1]))
        swap = {**{name: name for name in names}, "a": "b", "b": "a"}
        sights = {**{name: "s" for name in names}, "a": "t"}
        desk = Desk(names, {"turn": turn, "swap": swap}, sights)
        standings = names[:6]
        row = telling_row(desk, standings)
        self.assertTrue(tells(desk, standings)(row))
        check_shortest(self, row, desk.deeds, 8, tells(desk, standings))

    def test_all_the_same(self):
        names = letters(6)
        desk = Desk(names, {"turn": dict(zip(names, names[1:] + names[:1]))}, {name: "s" for name in names})
        self.assertEqual(telling_row(desk, names), [])


if __name__ == "__main__":
    unittest.main()
