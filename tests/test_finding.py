import unittest

from lateeditions.desks import Desk
from lateeditions.errors import BadDeed, BadMap
from lateeditions.finding import closed_lot, is_answer, is_closed_lot, row_for, rows_for, unanswered
from lateeditions.vectors import goal_of, vector_of
from support import (
    any_values, check_shortest, desk_pairs, dim, lamp, not_maps, plain_alike_standings, refused, rows_up_to, three,
    variants,
)

ELDER = Desk(["off", "on"], {"press": {"off": "on", "on": "off"}}, {"off": "dark", "on": "light"})
TRIO = Desk(["a", "b", "c"], {"tick": {"a": "b", "b": "c", "c": "a"}}, {"a": "dark", "b": "dim", "c": "light"})
FAR = {"off": "a", "on": "c"}
CALLS = [row_for, closed_lot]
PAIRS = list(desk_pairs(120))


def led(second, vector, row):
    return tuple(second.lead(one, row) for one in vector)


def are_alike(second, one, other):
    return all(plain_alike_standings(second, *pair) for pair in zip(one, other))


def answers(first, second, places, deed):
    vector, goal = vector_of(first, second, places), goal_of(first, second, places, deed)
    return lambda row: are_alike(second, led(second, vector, row), goal)


def plain_reached(second, vector):
    met = [vector]
    for one in met:
        met += [other for deed in second.deeds if (other := led(second, one, [deed])) not in met]
    return list(dict.fromkeys(met))


def is_plain_answer(first, second, places, deed, value):
    if value.__class__ is not list or any(one.__class__ is not str or one not in second.deeds for one in value):
        return False
    return answers(first, second, places, deed)(value)


def is_plain_lot(first, second, places, deed, value):
    many = len(first.come())
    if value.__class__ is not list:
        return False
    for one in value:
        if one.__class__ is not tuple or len(one) != many:
            return False
        if any(part.__class__ is not str or part not in second.standings for part in one):
            return False
    if len(set(value)) < len(value) or vector_of(first, second, places) not in value:
        return False
    if any(led(second, one, [newer]) not in value for one in value for newer in second.deeds):
        return False
    return not any(are_alike(second, one, goal_of(first, second, places, deed)) for one in value)


def wide():
    """Desks of five standings whose vectors are as many as can be."""
    names = list("abcde")
    still = {name: name for name in names}
    turn = {"run": dict(zip(names, "bcdea")), "swap": {**still, "a": "b", "b": "a"}, "join": {**still, "a": "b"}}
    sights = dict(zip(names, ["p", "q", "r", "s", "t"]))
    return Desk(names, {"go": dict(zip(names, "bcdea")), "mix": {**still, "a": "c", "c": "e", "e": "a"}}, sights), Desk(
        names, turn, sights,
    )


class RowForTest(unittest.TestCase):
    def test_shortest_rows(self):
        lengths = []
        for first, second, places in PAIRS:
            for deed in first.deeds:
                row = row_for(first, second, places, deed)
                found = answers(first, second, places, deed)
                check_shortest(self, row, second.deeds, 5 if len(second.deeds) < 3 else 4, found)
                self.assertEqual(row is None, closed_lot(first, second, places, deed) is not None)
                if row is not None:
                    self.assertIs(is_answer(first, second, places, deed, row), True)
                    lengths.append(len(row))
        self.assertEqual({0, 1, 2} - set(lengths), set())

    def test_alike_is_enough(self):
        places = {"off": "off", "on": "lit"}
        goal = goal_of(ELDER, three(), places, "press")
        self.assertEqual(goal, ("lit", "off"))
        self.assertEqual(row_for(ELDER, three(), places, "press"), ["press"])

    def test_all_mixes_of_five(self):
        first, second = wide()
        places = {name: name for name in "abcde"}
        self.assertEqual(row_for(first, second, places, "go"), ["run"])
        row = row_for(first, second, places, "mix")
        self.assertEqual(led(second, tuple("abcde"), row), goal_of(first, second, places, "mix"))
        self.assertTrue(5 <= len(row) <= 12)
        for less in rows_up_to(second.deeds, 5):
            self.assertTrue(len(less) == len(row) or not answers(first, second, places, "mix")(less))

    def test_to_fewer_standings(self):
        one = Desk(["x"], {"nod": {"x": "x"}}, {"x": "s"})
        for deed in lamp().deeds:
            self.assertEqual(row_for(lamp(), one, {"off": "x", "on": "x"}, deed), [])
        self.assertEqual(row_for(lamp(), dim(), {"off": "off", "on": "off"}, "press"), [])

    def test_standings_that_can_not_come_do_not_matter(self):
        first = Desk(["a", "b", "c"], {"go": {"a": "b", "b": "a", "c": "c"}}, {"a": "p", "b": "q", "c": "p"})
        flip = Desk(["x", "y"], {"flip": {"x": "y", "y": "x"}}, {"x": "p", "y": "q"})
        self.assertEqual(row_for(first, flip, {"a": "x", "b": "y", "c": "x"}, "go"), ["flip"])
        self.assertEqual(row_for(first, flip, {"a": "x", "b": "y", "c": "y"}, "go"), ["flip"])

    def test_new_each_time(self):
        row_for(ELDER, TRIO, {"off": "a", "on": "a"}, "press").append("tick")
        self.assertEqual(row_for(deed="press", places={"off": "a", "on": "a"}, second=TRIO, first=ELDER), [])


class IsAnswerTest(unittest.TestCase):
    def test_all_rows(self):
        met = []
        for first, second, places in PAIRS[:40]:
            for deed in first.deeds:
                for row in rows_up_to(second.deeds, 2):
                    expected = answers(first, second, places, deed)(row)
                    self.assertIs(is_answer(first, second, places, deed, row), expected)
                    met.append(expected)
        self.assertGreater(min(met.count(True), met.count(False)), 40)

    def test_variants_and_any_values(self):
        right = 0
        for first, second, places in PAIRS[:20]:
            for deed in first.deeds:
                row = row_for(first, second, places, deed)
                for value in [*variants(row or [second.deeds[0]]), *any_values(), tuple(row or ()), second.deeds[0]]:
                    expected = is_plain_answer(first, second, places, deed, value)
                    self.assertIs(is_answer(first, second, places, deed, value), expected, value)
                    right += expected
        self.assertGreater(right, 10)
        self.assertIs(is_answer(ELDER, TRIO, FAR, "press", ["tick"] * 3000), False)
        self.assertIs(is_answer(value=["tick"] * 3000, first=ELDER, second=TRIO, places={"off": "b", "on": "b"}, deed="press"), True)


class ClosedLotTest(unittest.TestCase):
    def test_lots(self):
        found = 0
        for first, second, places in PAIRS:
            for deed in first.deeds:
                told = closed_lot(first, second, places, deed)
                plain = plain_reached(second, vector_of(first, second, places))
                if told is None:
                    self.assertFalse(is_plain_lot(first, second, places, deed, plain))
                    self.assertIs(is_closed_lot(first, second, places, deed, plain), False)
                else:
                    found += 1
                    self.assertTrue(is_plain_lot(first, second, places, deed, told))
                    self.assertIs(is_closed_lot(first, second, places, deed, told), True)
                    self.assertIs(is_closed_lot(first, second, places, deed, told[::-1]), True)
        self.assertGreater(found, 20)

    def test_one_vector_left_out_or_too_many(self):
        right = wrong = 0
        for first, second, places in PAIRS:
            for deed in first.deeds:
                told = closed_lot(first, second, places, deed)
                if told is not None:
                    goal = goal_of(first, second, places, deed)
                    some = [tuple([one] * len(goal)) for one in second.standings]
                    values = [told + [goal], told + [told[0]], told + [vector_of(first, second, places)]]
                    values += [told + [one] for one in some] + [told[:k] + told[k + 1:] for k in range(len(told))]
                    values += [told + plain_reached(second, one) for one in some if one not in told]
                    for value in values:
                        expected = is_plain_lot(first, second, places, deed, value)
                        self.assertIs(is_closed_lot(first, second, places, deed, value), expected, value)
                        right += expected
                        wrong += not expected
        self.assertGreater(min(right, wrong), 10)

    def test_values_of_any_kind(self):
        lot = [("a", "c"), ("b", "a"), ("c", "b")]
        for value in [*variants(lot), *any_values(), set(lot), tuple(lot), [list(one) for one in lot], lot + [()], lot + ["ac"]]:
            expected = is_plain_lot(ELDER, TRIO, FAR, "press", value)
            self.assertIs(is_closed_lot(ELDER, TRIO, FAR, "press", value), expected, value)
        self.assertIs(is_closed_lot(value=lot[::-1], deed="press", places=FAR, second=TRIO, first=ELDER), True)
        self.assertIs(is_closed_lot(ELDER, TRIO, FAR, "press", [one + ("a",) for one in lot]), False)
        self.assertIs(is_closed_lot(ELDER, TRIO, FAR, "press", lot + [("a", "a"), ("b", "b"), ("c", "c")]), True)
        self.assertIs(is_closed_lot(ELDER, TRIO, FAR, "press", lot + [("c", "a"), ("a", "b"), ("b", "c")]), False)

    def test_alike_to_the_goal(self):
        twins = Desk(["a", "b", "c"], {"stay": {"a": "a", "b": "b", "c": "c"}}, {"a": "p", "b": "q", "c": "q"})
        places = {"off": "a", "on": "b"}
        self.assertIs(is_closed_lot(ELDER, twins, places, "press", [("a", "b")]), True)
        self.assertIs(is_closed_lot(ELDER, twins, places, "press", [("a", "b"), ("b", "a")]), False)
        self.assertIs(is_closed_lot(ELDER, twins, places, "press", [("a", "b"), ("c", "a")]), False)
        self.assertIs(is_closed_lot(ELDER, twins, places, "press", [("a", "b"), ("c", "c")]), True)
        self.assertIsNone(closed_lot(ELDER, twins, {"off": "b", "on": "c"}, "press"))

    def test_as_many_vectors_as_can_be(self):
        first, second = wide()
        self.assertIsNone(closed_lot(first, second, {one: one for one in "abcde"}, "mix"))
        places = {**{one: one for one in "abcde"}, "b": "a"}
        told = closed_lot(first, second, places, "go")
        self.assertEqual(set(told), set(plain_reached(second, vector_of(first, second, places))))
        self.assertGreater(len(told), 400)
        self.assertIs(is_closed_lot(first, second, places, "go", told), True)
        self.assertIs(is_closed_lot(first, second, places, "go", told[:-1]), False)

    def test_new_each_time(self):
        closed_lot(ELDER, TRIO, FAR, "press").clear()
        self.assertEqual(sorted(closed_lot(ELDER, TRIO, FAR, "press")), [("a", "c"), ("b", "a"), ("c", "b")])


class RowsForTest(unittest.TestCase):
    def test_all_deeds(self):
        met = []
        for first, second, places in PAIRS:
            rows = {deed: row_for(first, second, places, deed) for deed in first.deeds}
            lacking = [deed for deed in first.deeds if rows[deed] is None]
            self.assertEqual(unanswered(first, second, places), lacking)
            told = rows_for(first, second, places)
            met.append(len(lacking))
            if lacking:
                self.assertIsNone(told)
            else:
                self.assertEqual(set(told), set(first.deeds))
                for deed, row in told.items():
                    self.assertIs(is_answer(first, second, places, deed, row), True)
                    self.assertEqual(len(row), len(rows[deed]))
        self.assertEqual({0, 1, 2} - set(met), set())

    def test_unanswered_in_the_desk_s_sequence(self):
        first = Desk(["x", "y"], {
            "zap": {"x": "y", "y": "x"}, "stay": {"x": "x", "y": "y"}, "air": {"x": "y", "y": "y"},
        }, {"x": "p", "y": "q"})
        still = Desk(["a", "b"], {"nod": {"a": "a", "b": "b"}}, {"a": "p", "b": "q"})
        self.assertEqual(unanswered(places={"x": "a", "y": "b"}, second=still, first=first), ["zap", "air"])
        self.assertIsNone(rows_for(first, still, {"x": "a", "y": "b"}))
        self.assertEqual(rows_for(first, still, {"x": "a", "y": "a"}), {"zap": [], "stay": [], "air": []})

    def test_new_each_time(self):
        places = {"off": "a", "on": "a"}
        told = rows_for(ELDER, TRIO, places)
        told["press"].append("tick")
        told.clear()
        self.assertEqual(rows_for(places=places, first=ELDER, second=TRIO), {"press": []})


class RefusalsTest(unittest.TestCase):
    def test_maps_ahead_of_deeds(self):
        for first, second in [(lamp(), dim()), (ELDER, TRIO)]:
            right = {one: second.start for one in first.standings}
            for value in not_maps(first, second):
                for call in (rows_for, unanswered):
                    refused(self, BadMap, value, call, first, second, value)
                for deed in (first.deeds[0], None):
                    for call in (row_for, closed_lot):
                        refused(self, BadMap, value, call, first, second, value, deed)
                    for call in (is_answer, is_closed_lot):
                        refused(self, BadMap, value, call, first, second, value, deed, None)
            for value in any_values() + [second.deeds[0], first.start, list(first.deeds)]:
                for call in (row_for, closed_lot):
                    refused(self, BadDeed, value, call, first, second, right, value)
                for call in (is_answer, is_closed_lot):
                    for other in ([], None, [("a", "c")]):
                        refused(self, BadDeed, value, call, first, second, right, value, other)


if __name__ == "__main__":
    unittest.main()
