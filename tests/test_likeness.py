import unittest

from lateeditions.desks import Desk
from lateeditions.errors import BadStanding
from lateeditions.likeness import alike, is_likeness, lots, parting_row
from support import any_values, check_shortest, lamp, letters, made_desk, plain_search, refused, three


def chain(many, sights):
    """A desk whose one deed leads each standing to the next one, and the last one to itself."""
    names = letters(many)
    steps = {name: names[min(k + 1, many - 1)] for k, name in enumerate(names)}
    return Desk(names, {"go": steps}, dict(zip(names, sights)))


def parts(desk, one, other):
    return lambda row: desk.sight(desk.lead(one, row)) != desk.sight(desk.lead(other, row))


def desks():
    made = [made_desk(seed, 1 + seed % 6, 1 + seed % 2, 2) for seed in range(40)]
    return made + [lamp(), three(), chain(9, ["s"] * 8 + ["t"]), chain(9, ["s"] * 9), chain(1, ["s"])]


class AlikeTest(unittest.TestCase):
    def test_parting_rows_are_shortest(self):
        for desk in desks():
            most = len(desk.standings)
            for one in desk.standings:
                for other in desk.standings:
                    row = parting_row(desk, one, other)
                    check_shortest(self, row, desk.deeds, most, parts(desk, one, other))
                    self.assertIs(alike(desk, one, other), row is None)

    def test_nine_standings_with_the_longest_row(self):
        desk = chain(9, ["s"] * 8 + ["t"])
        self.assertEqual(parting_row(desk, "a", "b"), ["go"] * 7)
        self.assertEqual(parting_row(desk, "h", "i"), [])
        self.assertIs(alike(desk, "a", "b"), False)
        self.assertIs(alike(desk, "a", "a"), True)

    def test_standings_that_can_not_come(self):
        still = {"go": {"a": "a", "b": "b", "c": "c"}}
        desk = Desk(["a", "b", "c"], still, {"a": "s", "b": "t", "c": "t"})
        self.assertEqual([alike(desk, "b", "c"), parting_row(desk, "a", "c")], [True, []])

    def test_wrong_values(self):
        for value in any_values() + ["press"]:
            for call in (alike, parting_row):
                refused(self, BadStanding, value, call, lamp(), value, "on")
                refused(self, BadStanding, value, call, lamp(), value, "burn")
                refused(self, BadStanding, value, call, lamp(), "on", value)

    def test_by_name_and_new_each_time(self):
        desk = chain(3, ["s", "s", "t"])
        parting_row(desk, "a", "b").append("burn")
        self.assertEqual(parting_row(other="b", one="a", desk=desk), ["go"])
        self.assertEqual(alike(other="b", one="a", desk=desk), False)


class LotsTest(unittest.TestCase):
    def test_lots_hold_what_is_alike(self):
        for desk in desks():
            told = lots(desk)
            self.assertEqual(sorted(one for lot in told for one in lot), sorted(desk.standings))
            for lot in told:
                for other in told:
                    self.assertIs(alike(desk, lot[0], other[-1]), lot == other)
            at = desk.standings.index
            self.assertEqual(told, sorted((sorted(lot, key=at) for lot in told), key=lambda lot: at(lot[0])))
            self.assertIs(is_likeness(desk, told), True)

    def test_sequence(self):
        desk = Desk(list("dcba"), {"go": {one: one for one in "abcd"}}, dict(zip("abcd", "stst")))
        self.assertEqual(lots(desk), [["d", "b"], ["c", "a"]])
        self.assertEqual(lots(chain(9, ["s"] * 9)), [letters(9)])
        self.assertEqual(lots(chain(1, ["s"])), [["a"]])

    def test_new_each_time(self):
        desk = three()
        told = lots(desk)
        told[0].append("on")
        told.pop()
        self.assertEqual(lots(desk), [["off"], ["on", "lit"]])
        self.assertEqual(lots(desk=desk), [["off"], ["on", "lit"]])


class IsLikenessTest(unittest.TestCase):
    def test_ordinary(self):
        self.assertIs(is_likeness(three(), [["off"], ["on", "lit"]]), True)
        self.assertIs(is_likeness(three(), [["lit"], ["on"], ["off"]]), True)
        self.assertIs(is_likeness(value=[["lit", "on"], ["off"]], desk=three()), True)

    def test_a_coarse_and_a_fine_one(self):
        desk = chain(4, ["s"] * 4)
        self.assertIs(is_likeness(desk, [["a", "b", "c", "d"]]), True)
        self.assertIs(is_likeness(desk, [["a"], ["b"], ["c", "d"]]), True)
        self.assertIs(is_likeness(desk, [["a", "b"], ["c", "d"]]), False)

    def test_wrong_sights_and_wrong_leads(self):
        self.assertIs(is_likeness(three(), [["off", "on", "lit"]]), False)
        self.assertIs(is_likeness(three(), [["off", "lit"], ["on"]]), False)
        desk = chain(3, ["s", "s", "t"])
        self.assertIs(is_likeness(desk, [["a", "b"], ["c"]]), False)

    def test_wrong_forms(self):
        wrong = [
            [["off"], ["on"]], [["off"], ["on", "lit"], []], [["off"], ["on", "lit", "lit"]],
            [["off"], ["on", "lit"], ["off"]], [["off"], ("on", "lit")], (["off"], ["on", "lit"]),
            [["off"], ["on", "lit", "nosuch"]], [["off"], ["on", None]], [["off"], ["on", ["lit"]]],
            {"off": 0, "on": 1, "lit": 1}, ["off", "on", "lit"], [["off"], "lit", ["on"]], [["off"], ["on"], ["on"]],
            [["off"], {"on": 1, "lit": 1}],
        ]
        for value in any_values() + wrong:
            self.assertIs(is_likeness(three(), value), False)

    def test_value_stays_as_it_is(self):
        value = [["lit", "on"], ["off"]]
        is_likeness(three(), value)
        self.assertEqual(value, [["lit", "on"], ["off"]])

    def test_against_all_partings_of_small_desks(self):
        for seed in range(30):
            desk = made_desk(seed, 3, 2, 2)
            for value in partings("abc"):
                together = all(self.keeps(desk, value, lot) for lot in value)
                self.assertIs(is_likeness(desk, value), together)

    def keeps(self, desk, value, lot):
        def home(one):
            return [one in other for other in value]
        if len({desk.sight(one) for one in lot}) > 1:
            return False
        return all(home(desk.lead(lot[0], [deed])) == home(desk.lead(one, [deed])) for one in lot for deed in desk.deeds)


def partings(names):
    if not names:
        return [[]]
    told = []
    for rest in partings(names[1:]):
        told.append([[names[0]]] + rest)
        for k in range(len(rest)):
            told.append(rest[:k] + [[names[0]] + rest[k]] + rest[k + 1:])
    return told


class PlainSearchTest(unittest.TestCase):
    def test_the_plain_search_itself(self):
        self.assertEqual(plain_search(["a", "b"], 2, lambda row: row == ["b", "a"]), ["b", "a"])
        self.assertIsNone(plain_search(["a"], 2, lambda row: len(row) == 3))


if __name__ == "__main__":
    unittest.main()
