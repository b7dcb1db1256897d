import itertools
import unittest

from lateeditions.desks import Desk
from lateeditions.errors import BadDeed, BadMap, BadRow, BadVector
from lateeditions.vectors import goal_of, led_vector, vector_of, vectors_alike
from support import (
    any_values, desk_pairs, dim, lamp, letters, made_desk, not_maps, plain_alike_standings, refused, rows_up_to,
    three,
)

STAY = Desk(["c", "a", "d", "b"], {"go": {"a": "b", "b": "c", "c": "b", "d": "d"}}, {one: "s" for one in "abcd"})


class VectorOfTest(unittest.TestCase):
    def test_made_maps(self):
        for first, second, places in desk_pairs(60):
            come = [one for one in first.standings if one in first.come()]
            vector = vector_of(first, second, places)
            self.assertEqual(vector, tuple(places[one] for one in come))
            for deed in first.deeds:
                goal = goal_of(first, second, places, deed)
                self.assertEqual(goal, tuple(places[first.lead(one, [deed])] for one in come))

    def test_just_those_that_can_come_in_the_desk_s_sequence(self):
        places = {"a": "off", "b": "on", "c": "off", "d": "on"}
        self.assertEqual(STAY.come(), ["c", "b"])
        self.assertEqual(vector_of(STAY, lamp(), places), ("off", "on"))
        self.assertEqual(goal_of(STAY, lamp(), places, "go"), ("on", "off"))
        self.assertEqual(vector_of(places={**places, "d": "off", "a": "on"}, second=lamp(), first=STAY), ("off", "on"))

    def test_of_several_standings_to_one(self):
        places = {"off": "low", "on": "low"}
        self.assertEqual(vector_of(lamp(), dim(), places), ("low", "low"))
        self.assertEqual(goal_of(deed="cut", places=places, second=dim(), first=lamp()), ("low", "low"))

    def test_wrong_maps(self):
        for first, second in [(lamp(), dim()), (STAY, three()), (three(), STAY)]:
            for value in not_maps(first, second):
                refused(self, BadMap, value, vector_of, first, second, value)
                for deed in (first.deeds[0], None, "nosuch"):
                    refused(self, BadMap, value, goal_of, first, second, value, deed)

    def test_wrong_deeds(self):
        places = {"off": "low", "on": "low"}
        for value in any_values() + ["up", ("press",), ["press"], "off"]:
            refused(self, BadDeed, value, goal_of, lamp(), dim(), places, value)


class LedVectorTest(unittest.TestCase):
    def test_each_standing_is_led(self):
        for seed in range(20):
            desk = made_desk(seed, 1 + seed % 5, 1 + seed % 3, 2)
            for many in range(4):
                for vector in itertools.product(desk.standings, repeat=many):
                    for row in rows_up_to(desk.deeds, 2 if many < 3 else 1):
                        self.assertEqual(led_vector(desk, vector, row), tuple(desk.lead(one, row) for one in vector))

    def test_edges(self):
        self.assertEqual(led_vector(row=[], vector=("on", "on", "off"), second=lamp()), ("on", "on", "off"))
        self.assertEqual(led_vector(lamp(), (), ["press"]), ())
        row = ["press", "cut"]
        self.assertEqual(led_vector(lamp(), ("on",) * 12, row), ("off",) * 12)
        self.assertEqual(row, ["press", "cut"])

    def test_wrong_vectors(self):
        for value in any_values() + ["on", ["on"], ("on", "low"), ("on", None), (("on",),), {"on": "on"}, ("press",)]:
            if value != ():
                refused(self, BadVector, value, led_vector, lamp(), value, ["press"])
                refused(self, BadVector, value, led_vector, lamp(), value, [None])

    def test_wrong_rows(self):
        for value in any_values() + ["on", ["press"], ("press",), 0]:
            for vector in [(), ("on",), ("on", "off")]:
                refused(self, BadRow, 0, led_vector, lamp(), vector, [value])
                refused(self, BadRow, 2, led_vector, lamp(), vector, ["press", "cut", value, "press", None])
        for value in any_values() + ["press", ("press",)]:
            if not isinstance(value, list):
                refused(self, BadRow, 0, led_vector, lamp(), ("on",), value)


class VectorsAlikeTest(unittest.TestCase):
    def test_place_by_place(self):
        met = []
        for seed in range(40):
            desk = made_desk(seed, 1 + seed % 4, 1, 2)
            for many in range(3):
                for one in itertools.product(desk.standings, repeat=many):
                    for other in itertools.product(desk.standings, repeat=many):
                        expected = all(plain_alike_standings(desk, *pair) for pair in zip(one, other))
                        self.assertIs(vectors_alike(desk, one, other), expected)
                        met.append(expected and one != other)
        self.assertGreater(met.count(True), 30)

    def test_edges(self):
        self.assertIs(vectors_alike(three(), (), ()), True)
        self.assertIs(vectors_alike(three(), ("on", "off"), ("lit", "off")), True)
        self.assertIs(vectors_alike(three(), ("on", "off"), ("off", "lit")), False)
        self.assertIs(vectors_alike(other=("lit",) * 20, one=("on",) * 20, second=three()), True)
        self.assertIs(vectors_alike(three(), ("on",) * 20, ("lit",) * 19 + ("off",)), False)

    def test_errors(self):
        wrong = any_values() + ["on", ["on"], ("on", "low"), (None,), ("on", ["on"]), letters(3), tuple(letters(1))]
        for value in wrong:
            if value != ():
                refused(self, BadVector, value, vectors_alike, three(), value, value)
                refused(self, BadVector, value, vectors_alike, three(), value, None)
                refused(self, BadVector, value, vectors_alike, three(), (), value)
            refused(self, BadVector, value, vectors_alike, three(), ("on",), value)
        for one, other in [(("on",), ()), ((), ("on",)), (("on", "on"), ("on",)), (("on",), ("on", "on"))]:
            refused(self, BadVector, other, vectors_alike, three(), one, other)


if __name__ == "__main__":
    unittest.main()
