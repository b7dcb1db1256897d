import unittest

from lateeditions.books import Change
from lateeditions.desks import Desk
from lateeditions.errors import BadMap, BadRows, BadStanding
from lateeditions.finding import rows_for
from lateeditions.forced import (
    change_for, clash, eyes_for, forced_map, goes_with, is_quarrel, quarrel,
)
from lateeditions.vectors import goal_of, led_vector, vector_of
from support import (
    any_values, desk_pairs, dim, grown, lamp, letters, made_change, made_desk, made_map, not_maps,
    plain_alike_standings, refused, rows_up_to, sights_of, three, variants,
)

ELDER = Desk(["off", "on"], {"press": {"off": "on", "on": "off"}}, {"off": "dark", "on": "light"})
PAIR = Desk(["a", "b"], {"flip": {"a": "b", "b": "a"}, "fix": {"a": "b", "b": "b"}}, {"a": "dark", "b": "light"})
TRIO = Desk(["a", "b", "c"], {"tick": {"a": "b", "b": "c", "c": "a"}}, {"a": "dark", "b": "dim", "c": "light"})
PAIRS = list(desk_pairs(60))


def rows_of(change):
    return {deed: change.row(deed) for deed in change.first.deeds}


def told_rows():
    """Tuples (elder desk, newer desk, rows), in some of which the rows force a map."""
    for seed in range(40):
        first = made_desk(seed, 1 + seed % 4, 1 + seed % 2, 2)
        second = made_desk(seed + 300, 1 + seed // 2 % 5, 1 + seed // 3 % 3, 2)
        yield first, second, rows_of(made_change(seed, first, second))
        yield first, second, {deed: [] for deed in first.deeds}
        if len(first.standings) < 4:
            change = grown(seed, first, 1)
            yield first, change.second, rows_of(change)


TOLD = list(told_rows())


def played(rows, row):
    return [newer for deed in row for newer in rows[deed]]


def is_plain_map(first, second, value):
    return value.__class__ is dict and set(value) == set(first.standings) and all(
        one.__class__ is str and one in second.standings for one in value.values()
    )


def plain_goes_with(first, second, rows, begin, value):
    if not is_plain_map(first, second, value) or not plain_alike_standings(second, value[first.start], begin):
        return False
    return all(
        plain_alike_standings(second, *pair)
        for deed in first.deeds
        for pair in zip(
            led_vector(second, vector_of(first, second, value), rows[deed]), goal_of(first, second, value, deed),
        )
    )


def is_plain_quarrel(first, second, rows, begin, value):
    if value.__class__ is not tuple or len(value) != 2:
        return False
    for row in value:
        if row.__class__ is not list or any(deed.__class__ is not str or deed not in first.deeds for deed in row):
            return False
    one, other = [first.lead(first.start, row) for row in value]
    newer = [second.lead(begin, played(rows, row)) for row in value]
    return one == other and not plain_alike_standings(second, *newer)


class ForcedMapTest(unittest.TestCase):
    def test_maps_and_quarrels(self):
        met = []
        for first, second, rows in TOLD:
            for begin in second.standings:
                told, other = forced_map(first, second, rows, begin), quarrel(first, second, rows, begin)
                self.assertEqual(told is None, other is not None)
                if told is None:
                    self.assertTrue(is_plain_quarrel(first, second, rows, begin, other), other)
                    self.assertIs(is_quarrel(first, second, rows, begin, other), True)
                    self.assertIs(is_quarrel(first, second, rows, begin, other[::-1]), True)
                    for seed in range(12):
                        places = made_map(seed, first, second)
                        self.assertFalse(plain_goes_with(first, second, rows, begin, places))
                else:
                    self.assertTrue(plain_goes_with(first, second, rows, begin, told))
                    self.assertIs(goes_with(first, second, rows, begin, told), True)
                    self.assertFalse(self.has_quarrel(first, second, rows, begin))
                met.append(told is None)
        self.assertGreater(min(met.count(True), met.count(False)), 40)

    def has_quarrel(self, first, second, rows, begin):
        some = list(rows_up_to(first.deeds, 3))
        return any(is_plain_quarrel(first, second, rows, begin, (one, other)) for one in some for other in some)

    def test_all_begins(self):
        rows = {"press": ["flip"]}
        self.assertEqual(forced_map(ELDER, PAIR, rows, "a"), {"off": "a", "on": "b"})
        self.assertEqual(forced_map(begin="b", rows=rows, second=PAIR, first=ELDER), {"off": "b", "on": "a"})
        self.assertIsNone(forced_map(ELDER, PAIR, {"press": ["fix"]}, "a"))
        self.assertEqual(forced_map(ELDER, PAIR, {"press": ["fix"]}, "b"), {"off": "b", "on": "b"})
        self.assertEqual(forced_map(ELDER, PAIR, {"press": ["flip"] * 41}, "a"), {"off": "a", "on": "b"})
        self.assertEqual(forced_map(ELDER, PAIR, {"press": []}, "a"), {"off": "a", "on": "a"})

    def test_alike_is_enough(self):
        twins = Desk(["a", "b", "c"], {"go": {"a": "b", "b": "c", "c": "b"}}, {"a": "p", "b": "q", "c": "p"})
        places = forced_map(ELDER, twins, {"press": ["go"]}, "a")
        self.assertIn(places, [{"off": "a", "on": "b"}, {"off": "c", "on": "b"}])
        for value in [{"off": "a", "on": "b"}, {"off": "c", "on": "b"}]:
            self.assertIs(goes_with(ELDER, twins, {"press": ["go"]}, "a", value), True)
            self.assertIs(goes_with(ELDER, twins, {"press": ["go"]}, "c", value), True)
            self.assertIs(goes_with(ELDER, twins, {"press": ["go"]}, "b", value), False)
        self.assertIsNone(quarrel(ELDER, twins, {"press": ["go"]}, "a"))

    def test_standings_that_can_not_come(self):
        first = Desk(["a", "b", "c"], {"go": {"a": "b", "b": "a", "c": "c"}}, {"a": "p", "b": "q", "c": "p"})
        told = forced_map(first, PAIR, {"go": ["flip"]}, "b")
        self.assertEqual({one: told[one] for one in "ab"}, {"a": "b", "b": "a"})
        self.assertIn(told["c"], PAIR.standings)
        for one in PAIR.standings:
            self.assertIs(goes_with(first, PAIR, {"go": ["flip"]}, "b", {"a": "b", "b": "a", "c": one}), True)

    def test_new_each_time(self):
        rows = {"press": ["flip"]}
        forced_map(ELDER, PAIR, rows, "a").clear()
        self.assertEqual(len(forced_map(ELDER, PAIR, rows, "a")), 2)
        told = quarrel(ELDER, TRIO, {"press": ["tick"]}, "a")
        for row in told:
            row.append("press")
        self.assertTrue(is_plain_quarrel(ELDER, TRIO, {"press": ["tick"]}, "a", quarrel(ELDER, TRIO, {"press": ["tick"]}, "a")))
        self.assertEqual(rows, {"press": ["flip"]})


class GoesWithTest(unittest.TestCase):
    def test_made_maps(self):
        met = []
        for first, second, rows in TOLD:
            for begin in second.standings:
                told = forced_map(first, second, rows, begin)
                maps = [made_map(seed, first, second) for seed in range(4)]
                for one in first.standings if told else []:
                    maps += [{**told, one: other} for other in second.standings]
                for value in maps:
                    expected = plain_goes_with(first, second, rows, begin, value)
                    self.assertIs(goes_with(first, second, rows, begin, value), expected)
                    met.append(expected)
        self.assertGreater(min(met.count(True), met.count(False)), 100)

    def test_values_of_any_kind(self):
        rows = {"press": ["flip"]}
        for value in not_maps(ELDER, PAIR) + [PAIR, rows]:
            self.assertIs(goes_with(ELDER, PAIR, rows, "a", value), False)
        for value in variants({"off": "a", "on": "b"}):
            self.assertIs(goes_with(ELDER, PAIR, rows, "a", value), plain_goes_with(ELDER, PAIR, rows, "a", value))
        self.assertIs(goes_with(value={"on": "b", "off": "a"}, begin="a", rows=rows, second=PAIR, first=ELDER), True)


class IsQuarrelTest(unittest.TestCase):
    def test_pairs_of_rows(self):
        met = []
        for first, second, rows in TOLD[:60]:
            for begin in second.standings:
                some = list(rows_up_to(first.deeds, 2))
                for one in some:
                    for other in some:
                        expected = is_plain_quarrel(first, second, rows, begin, (one, other))
                        self.assertIs(is_quarrel(first, second, rows, begin, (one, other)), expected)
                        met.append(expected)
        self.assertGreater(min(met.count(True), met.count(False)), 100)

    def test_values_of_any_kind(self):
        rows = {"press": ["tick"]}
        right = ([], ["press", "press"])
        for value in [*variants(right), *any_values(), [[], ["press", "press"]], ((), ["press", "press"]), ([], ["tick", "tick"])]:
            expected = is_plain_quarrel(ELDER, TRIO, rows, "a", value)
            self.assertIs(is_quarrel(ELDER, TRIO, rows, "a", value), expected, value)
        self.assertIs(is_quarrel(value=right, begin="a", rows=rows, second=TRIO, first=ELDER), True)
        self.assertIs(is_quarrel(ELDER, TRIO, rows, "a", (["press"], ["press"] * 2001)), True)
        self.assertIs(is_quarrel(ELDER, TRIO, rows, "a", (["press"], ["press"] * 2005)), False)
        self.assertIs(is_quarrel(ELDER, TRIO, {"press": ["tick"] * 3000}, "a", right), False)


class RefusalsTest(unittest.TestCase):
    def calls(self):
        return [
            forced_map, quarrel, lambda *told: goes_with(*told, {"off": "a", "on": "b"}), lambda *told: goes_with(*told, None),
            lambda *told: is_quarrel(*told, ([], [])), lambda *told: is_quarrel(*told, None),
        ]

    def test_rows_ahead_of_begins(self):
        wrong = any_values() + [
            {"press": "flip"}, {"press": ("flip",)}, {"press": ["nosuch"]}, {"press": ["flip", None]}, {"press": None},
            {"press": ["flip"], "cut": []}, {"cut": []}, {"press": ["press"]}, [("press", [])], {"press": [["flip"]]}, "press",
            {"press": {"flip": 1}}, {0: []},
        ]
        for call in self.calls():
            for value in wrong:
                refused(self, BadRows, value, call, ELDER, PAIR, value, "a")
                refused(self, BadRows, value, call, ELDER, PAIR, value, None)
                for rows in ({"press": ["flip"], "cut": value}, {"press": value, "cut": ["flip"]}):
                    if value != []:
                        refused(self, BadRows, rows, call, lamp(), PAIR, rows, "a")
            for value in any_values() + ["off", "c", ("a",), ["a"], "flip"]:
                refused(self, BadStanding, value, call, ELDER, PAIR, {"press": []}, value)

    def test_maps(self):
        for first, second in [(lamp(), dim()), (three(), PAIR)]:
            for value in not_maps(first, second):
                for call in (eyes_for, clash, change_for):
                    refused(self, BadMap, value, call, first, second, value)


class EyesForTest(unittest.TestCase):
    def test_eyes_and_clashes(self):
        met = []
        for first, second, places in PAIRS:
            eyes, told = eyes_for(first, second, places), clash(first, second, places)
            self.assertEqual(eyes is None, told is not None)
            met.append(eyes is None)
            if eyes is None:
                one, other = told
                self.assertIsInstance(told, tuple)
                self.assertLessEqual({one, other}, set(first.come()))
                self.assertNotEqual(first.sight(one), first.sight(other))
                self.assertEqual(second.sight(places[one]), second.sight(places[other]))
            else:
                self.assertEqual(sorted(eyes), sights_of(second))
                self.assertLessEqual(set(eyes.values()), set(sights_of(first)))
                for one in first.come():
                    self.assertEqual(eyes[second.sight(places[one])], first.sight(one))
        self.assertGreater(min(met.count(True), met.count(False)), 10)

    def test_standings_that_can_not_come_do_not_clash(self):
        first = Desk(["a", "b", "c"], {"go": {"a": "b", "b": "a", "c": "c"}}, {"a": "p", "b": "q", "c": "r"})
        places = {"a": "a", "b": "b", "c": "a"}
        self.assertIsNone(clash(first, PAIR, places))
        self.assertEqual(eyes_for(places=places, second=PAIR, first=first), {"dark": "p", "light": "q"})
        self.assertIn(clash(places={**places, "b": "a"}, second=PAIR, first=first), [("a", "b"), ("b", "a")])

    def test_sights_that_nothing_is_carried_to(self):
        eyes = eyes_for(ELDER, TRIO, {"off": "b", "on": "a"})
        self.assertEqual([eyes["dim"], eyes["dark"]], ["dark", "light"])
        self.assertIn(eyes["light"], ["dark", "light"])
        self.assertEqual(len(eyes), 3)
        eyes.clear()
        self.assertEqual(len(eyes_for(ELDER, TRIO, {"off": "b", "on": "a"})), 3)


class ChangeForTest(unittest.TestCase):
    def test_made_maps(self):
        met = []
        for first, second, places in PAIRS:
            change = change_for(first, second, places)
            rows, eyes = rows_for(first, second, places), eyes_for(first, second, places)
            met.append((change is None, rows is None, eyes is None))
            self.assertEqual(change is None, rows is None or eyes is None)
            if change is not None:
                self.assertIsInstance(change, Change)
                self.assertEqual((change.first, change.second), (first, second))
                self.assertEqual({one: change.carried(one) for one in first.standings}, places)
                for deed in first.deeds:
                    self.assertEqual(len(change.row(deed)), len(rows[deed]))
                    vector = led_vector(second, vector_of(first, second, places), change.row(deed))
                    for pair in zip(vector, goal_of(first, second, places, deed)):
                        self.assertTrue(plain_alike_standings(second, *pair))
                for one in first.come():
                    self.assertEqual(change.eye(second.sight(places[one])), first.sight(one))
        for kind in [(False, False, False), (True, True, False), (True, False, True), (True, True, True)]:
            self.assertGreater(met.count(kind), 1, kind)

    def test_longer_rows(self):
        for many in (4, 5):
            names = letters(many)
            walk = Desk(names, {"go": dict(zip(names, names[1:] + names[:1]))}, {name: name for name in names})
            back = Desk(names, {"back": dict(zip(names[1:] + names[:1], names))}, {name: name for name in names})
            same = {name: name for name in names}
            change = change_for(places=same, second=back, first=walk)
            self.assertEqual(change.row("go"), ["back"] * (many - 1))

    def test_rows_that_are_too_long(self):
        # All five standings are brought to one by sixteen deeds, to other ones by more.
        names = letters(5)
        sights = {name: name for name in names}
        turn = dict(zip(names, "bcdea"))
        join = {**{name: name for name in names}, "a": "b"}
        second = Desk(names, {"run": turn, "join": join}, sights)
        lengths = []
        for target in names:
            first = Desk(names, {"go": {name: target for name in names}, "turn": turn}, sights)
            rows = rows_for(first, second, sights)
            lengths.append(len(rows["go"]))
            change = change_for(first, second, sights)
            self.assertEqual(change is None, len(rows["go"]) > 16)
            self.assertIsNotNone(eyes_for(first, second, sights))
            if change is not None:
                self.assertEqual(len(change.row("go")), 16)
        self.assertEqual(sorted(lengths), [16, 17, 18, 19, 20])


if __name__ == "__main__":
    unittest.main()
