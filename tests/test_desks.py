import unittest

from lateeditions.desks import Desk
from lateeditions.errors import BadDeeds, BadRow, BadSights, BadStanding, BadStandings
from support import any_values, lamp, letters, made_desk, refused

NAMES = ["off", "on"]
DEEDS = {"press": {"off": "on", "on": "off"}}
SIGHTS = {"off": "dark", "on": "light"}


def lone(name="only", deed="stay", sight="plain"):
    return Desk([name], {deed: {name: name}}, {name: sight})


def wheel(many):
    names = letters(many)
    return {name: names[(k + 1) % many] for k, name in enumerate(names)}


class MakingTest(unittest.TestCase):
    def test_edges_that_are_allowed(self):
        self.assertEqual(lone().standings, ("only",))
        self.assertEqual(lone("a", "b", "c").sight("a"), "c")
        self.assertEqual(lone("abcdefgh", "ijklmnop", "qrstuvwx").sight("abcdefgh"), "qrstuvwx")
        names = letters(9)
        nine = Desk(names, {"go": wheel(9)}, {name: name for name in names})
        self.assertEqual(nine.come(), names)
        four = Desk(NAMES, {deed: DEEDS["press"] for deed in "abcd"}, SIGHTS)
        self.assertEqual(four.deeds, ("a", "b", "c", "d"))
        same = Desk(["x"], {"x": {"x": "x"}}, {"x": "x"})
        self.assertEqual((same.standings, same.deeds, same.sight("x")), (("x",), ("x",), "x"))

    def test_lists_and_tuples(self):
        self.assertEqual(Desk(NAMES, DEEDS, SIGHTS), Desk(tuple(NAMES), DEEDS, SIGHTS))
        self.assertEqual(Desk(NAMES, DEEDS, SIGHTS).standings, ("off", "on"))

    def test_wrong_standings(self):
        ten = letters(10)
        wrong = any_values() + [
            ["off", "off"], ["off", ""], ["off", "longername"], ["off", "On"], ["off", "a b"], ["off", "a1"],
            ["off", None], ["off", ["on"]], {"off": 1, "on": 2}, "on", ["off", "o-n"],
        ]
        for value in wrong:
            if value != ["nosuch"] and value != ("nosuch",):
                refused(self, BadStandings, value, Desk, value, DEEDS, SIGHTS)
        deeds, sights = {"go": {name: name for name in ten}}, {name: name for name in ten}
        refused(self, BadStandings, ten, Desk, ten, deeds, sights)
        long = ["abcdefghi"]
        refused(self, BadStandings, long, Desk, long, {"go": {long[0]: long[0]}}, {long[0]: "s"})

    def test_wrong_deeds(self):
        back = {"off": "off", "on": "off"}
        wrong = any_values() + [
            {"abcdefghi": back}, {"": back}, {1: back}, {None: back}, {("go",): back}, {"Go": back},
            {"go": back, 1: back}, {"go": {"off": "on"}}, {"go": {"off": "on", "on": "off", "lit": "on"}},
            {"go": {"off": "on", "on": "lit"}}, {"go": {"off": "on", "on": None}}, {"go": {"off": "on", 1: "on"}},
            {"go": ["on", "off"]}, {"go": (("off", "on"), ("on", "off"))}, {"go": "on"}, {"go": {}},
            {"go": {"off": ["on"], "on": "off"}}, {deed: back for deed in "abcde"}, [("go", back)],
            {"go": back, "hop": {"off": "on"}}, {"go": {"off": "on", "lit": "on"}},
        ]
        for value in wrong:
            refused(self, BadDeeds, value, Desk, NAMES, value, SIGHTS)

    def test_wrong_sights(self):
        wrong = any_values() + [
            {"off": "dark"}, {"off": "dark", "on": "light", "lit": "light"}, {"off": "dark", "lit": "light"},
            {"off": "dark", "on": ""}, {"off": "dark", "on": "abcdefghi"}, {"off": "dark", "on": "Light"},
            {"off": "dark", "on": None}, {"off": "dark", "on": 1}, {"off": "dark", "on": ["light"]},
            {"off": "dark", 1: "light"}, ["dark", "light"], (("off", "dark"), ("on", "light")),
        ]
        for value in wrong:
            refused(self, BadSights, value, Desk, NAMES, DEEDS, value)

    def test_the_first_wrong_one_is_told(self):
        names, deeds, sights = ["off", "off"], {"go": {}}, {"off": ""}
        refused(self, BadStandings, names, Desk, names, deeds, sights)
        refused(self, BadStandings, names, Desk, names, DEEDS, sights)
        refused(self, BadDeeds, deeds, Desk, NAMES, deeds, sights)

    def test_what_was_handed_in_is_copied_and_kept(self):
        names = ["off", "on"]
        deeds = {"press": {"off": "on", "on": "off"}}
        sights = {"off": "dark", "on": "light"}
        desk = Desk(names, deeds, sights)
        self.assertEqual((names, deeds, sights), (NAMES, DEEDS, SIGHTS))
        names.append("lit")
        deeds["press"]["off"] = "off"
        deeds["hop"] = {}
        sights["off"] = "red"
        self.assertEqual(desk, Desk(NAMES, DEEDS, SIGHTS))
        self.assertEqual((desk.standings, desk.deeds), (("off", "on"), ("press",)))
        self.assertEqual((desk.lead("off", ["press"]), desk.sight("off")), ("on", "dark"))

    def test_by_name(self):
        desk = Desk(sights=SIGHTS, deeds=DEEDS, standings=NAMES)
        self.assertEqual(desk, Desk(NAMES, DEEDS, SIGHTS))
        self.assertEqual(desk.lead(row=["press"], standing="off"), "on")
        self.assertEqual(desk.sight(standing="off"), "dark")


class TellingTest(unittest.TestCase):
    def test_properties(self):
        desk = Desk(("on", "off"), {"z": DEEDS["press"], "a": DEEDS["press"]}, SIGHTS)
        self.assertEqual((desk.standings, desk.deeds, desk.start), (("on", "off"), ("z", "a"), "on"))

    def test_lead(self):
        desk = lamp()
        self.assertEqual(desk.lead("on", []), "on")
        self.assertEqual(desk.lead("on", ["press"]), "off")
        self.assertEqual(desk.lead("on", ["cut", "press", "press", "press"]), "on")
        row = ["press", "cut"]
        self.assertEqual([desk.lead("on", row), row], ["off", ["press", "cut"]])

    def test_lead_refuses_standings_ahead_of_rows(self):
        for value in any_values() + ["press"]:
            refused(self, BadStanding, value, lamp().lead, value, [])
            refused(self, BadStanding, value, lamp().lead, value, ["burn"])

    def test_lead_refuses_entries(self):
        for value in any_values() + ["on"]:
            refused(self, BadRow, 0, lamp().lead, "on", [value])
            refused(self, BadRow, 2, lamp().lead, "on", ["press", "cut", value, value, "cut"])

    def test_sight(self):
        self.assertEqual([lamp().sight("off"), lamp().sight("on")], ["dark", "light"])
        for value in any_values() + ["dark"]:
            refused(self, BadStanding, value, lamp().sight, value)

    def test_come(self):
        names = letters(9)
        for many in range(1, 10):
            steps = {name: names[min(k + 1, many - 1)] for k, name in enumerate(names)}
            desk = Desk(names, {"go": steps}, {name: "s" for name in names})
            self.assertEqual(desk.come(), names[:many])
        back = {"a": "c", "b": "a", "c": "c"}
        desk = Desk(["a", "b", "c"], {"go": back}, {name: "s" for name in "abc"})
        self.assertEqual(desk.come(), ["a", "c"])
        self.assertEqual(lone().come(), ["only"])

    def test_come_is_in_the_desks_sequence(self):
        steps = {"a": "c", "b": "b", "c": "b"}
        desk = Desk(["a", "b", "c"], {"go": steps}, {name: "s" for name in "abc"})
        self.assertEqual(desk.come(), ["a", "b", "c"])

    def test_lists_are_new(self):
        desk = lamp()
        desk.come().append("lit")
        self.assertEqual(desk.come(), ["off", "on"])

    def test_made_again(self):
        for seed in range(20):
            desk = made_desk(seed, 9, 3, 3)
            self.assertEqual(desk.come(), desk.come())
            self.assertEqual(desk, made_desk(seed, 9, 3, 3))


class EqualityTest(unittest.TestCase):
    def test_equal(self):
        self.assertTrue(lamp() == lamp())
        self.assertFalse(lamp() != lamp())
        turned = Desk(
            ["off", "on"],
            {"press": {"on": "off", "off": "on"}, "cut": {"on": "off", "off": "off"}},
            {"on": "light", "off": "dark"},
        )
        self.assertTrue(lamp() == turned)

    def test_other_sequences(self):
        cut, press = {"off": "off", "on": "off"}, {"off": "on", "on": "off"}
        self.assertFalse(lamp() == Desk(["on", "off"], {"press": press, "cut": cut}, SIGHTS))
        self.assertFalse(lamp() == Desk(["off", "on"], {"cut": cut, "press": press}, SIGHTS))

    def test_other_parts(self):
        one = Desk(NAMES, DEEDS, SIGHTS)
        self.assertFalse(one == Desk(NAMES, {"press": {"off": "on", "on": "on"}}, SIGHTS))
        self.assertFalse(one == Desk(NAMES, {"hop": DEEDS["press"]}, SIGHTS))
        self.assertFalse(one == Desk(NAMES, DEEDS, {"off": "dark", "on": "dark"}))
        self.assertFalse(one == Desk(["off"], {"press": {"off": "off"}}, {"off": "dark"}))
        self.assertTrue(one != lamp())

    def test_any_values(self):
        for value in any_values():
            if not isinstance(value, Desk):
                self.assertIs(lamp() == value, False)
                self.assertIs(lamp() != value, True)


if __name__ == "__main__":
    unittest.main()
