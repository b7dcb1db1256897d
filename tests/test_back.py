import itertools
import random
import unittest

from lateeditions.back import (
    fall, is_fall, is_lasting_back, is_lasting_fall, is_map_back, lasting_back, lasting_fall, map_back,
)
from lateeditions.books import Change
from lateeditions.desks import Desk
from support import (
    any_values, fading, flipping, forgetful, grow, merging, not_maps, plain_alike_standings, plain_pairs,
    rows_up_to, told_changes, variants,
)

CHANGES = list(told_changes(150)) + [flipping(), forgetful(), fading(), merging(), grow()]


def once(change):
    return [(one, change.carried(one)) for one in change.first.come()]


def later(change):
    return [pair for one in change.first.come() for pair in plain_pairs(change, one)]


def leads_back(change, pairs, value):
    return all(plain_alike_standings(change.first, value[other], one) for one, other in pairs)


def all_maps(change):
    names = change.second.standings
    for targets in itertools.product(change.first.standings, repeat=len(names)):
        yield dict(zip(names, targets))


def is_plain_map(change, pairs, value):
    if value.__class__ is not dict or sorted(map(repr, value)) != sorted(map(repr, change.second.standings)):
        return False
    if any(one.__class__ is not str or one not in change.first.standings for one in value.values()):
        return False
    return leads_back(change, pairs, value)


def is_row(change, value):
    return value.__class__ is list and all(one.__class__ is str and one in change.first.deeds for one in value)


def falls(change, one, other):
    """Whether two tuples (ahead, behind) of rows make a fall, with the carry between them."""
    pairs = []
    for ahead, behind in (one, other):
        standing = change.first.lead(change.first.start, ahead)
        newer = change.carried(standing)
        for deed in behind:
            newer = change.second.lead(newer, change.row(deed))
        pairs.append((change.first.lead(standing, behind), newer))
    return pairs[0][1] == pairs[1][1] and not plain_alike_standings(change.first, pairs[0][0], pairs[1][0])


def is_plain_fall(change, value):
    if value.__class__ is not tuple or len(value) != 2 or not all(is_row(change, row) for row in value):
        return False
    return falls(change, *[(row, []) for row in value])


def is_plain_lasting_fall(change, value):
    if value.__class__ is not tuple or len(value) != 2:
        return False
    if not all(one.__class__ is tuple and len(one) == 2 and all(is_row(change, row) for row in one) for one in value):
        return False
    return falls(change, *value)


class MapBackTest(unittest.TestCase):
    def test_all_maps(self):
        met = []
        for pairs_of, tell, holds in [(once, map_back, is_map_back), (later, lasting_back, is_lasting_back)]:
            for change in CHANGES:
                pairs = pairs_of(change)
                right = [value for value in all_maps(change) if leads_back(change, pairs, value)]
                told = tell(change)
                self.assertEqual(told is None, right == [])
                if right:
                    self.assertIn(told, right)
                    self.assertIs(holds(change, told), True)
                for value in list(all_maps(change))[::7]:
                    self.assertIs(holds(change, value), value in right)
                met.append((tell is map_back, told is None))
        for kind in [(True, True), (True, False), (False, True), (False, False)]:
            self.assertGreater(met.count(kind), 15, kind)

    def test_a_map_just_where_there_is_no_fall(self):
        for change in CHANGES:
            self.assertIs(map_back(change=change) is None, fall(change=change) is not None)
            self.assertIs(lasting_back(change=change) is None, lasting_fall(change=change) is not None)
            # A map back that lasts is a right one.
            if lasting_back(change) is not None:
                self.assertIs(is_map_back(change, lasting_back(change)), True)

    def test_right_at_once_and_not_later(self):
        self.assertEqual(map_back(fading()), {"d": "a", "e": "b", "f": "c"})
        self.assertIsNone(lasting_back(fading()))
        self.assertIs(is_map_back(value={"d": "a", "e": "b", "f": "c"}, change=fading()), True)
        self.assertIs(is_lasting_back(value={"d": "a", "e": "b", "f": "c"}, change=fading()), False)
        self.assertIsNone(map_back(forgetful()))
        self.assertIs(is_map_back(forgetful(), {"w": "x"}), False)

    def test_standings_that_can_not_come(self):
        # The standing c can not come: where it is carried does not matter.
        first = Desk(["a", "b", "c"], {"go": {"a": "b", "b": "a", "c": "c"}}, {"a": "p", "b": "q", "c": "r"})
        second = Desk(["d", "e", "f"], {"run": {"d": "e", "e": "d", "f": "d"}}, {"d": "p", "e": "q", "f": "q"})
        change = Change(first, second, {"a": "d", "b": "e", "c": "e"}, {"go": ["run"]}, {"p": "p", "q": "q"})
        for holds in (is_map_back, is_lasting_back):
            for free in ("a", "b", "c"):
                self.assertIs(holds(change, {"d": "a", "e": "b", "f": free}), True)
            self.assertIs(holds(change, {"d": "a", "e": "c", "f": "a"}), False)
            self.assertIs(holds(change, {"d": "a", "e": "b"}), False)
        self.assertEqual([fall(change), lasting_fall(change)], [None, None])

    def test_alike_is_enough(self):
        desk = Desk(["a", "b", "c"], {"go": {"a": "b", "b": "a", "c": "b"}}, {"a": "p", "b": "q", "c": "p"})
        change = Change(desk, desk, {"a": "a", "b": "b", "c": "a"}, {"go": ["go"]}, {"p": "p", "q": "q"})
        for value, expected in [
            ({"a": "c", "b": "b", "c": "b"}, True), ({"a": "a", "b": "b", "c": "a"}, True), ({"a": "b", "b": "b", "c": "a"}, False),
        ]:
            self.assertIs(is_map_back(change, value), expected)
            self.assertIs(is_lasting_back(change, value), expected)

    def test_values_of_any_kind(self):
        met = []
        for change in (flipping(), merging(), fading(), grow()):
            right = map_back(change) or {one: change.first.start for one in change.second.standings}
            for value in any_values() + not_maps(change.second, change.first) + list(variants(right)):
                met.append(is_map_back(change, value))
                self.assertIs(met[-1], is_plain_map(change, once(change), value), value)
                self.assertIs(is_lasting_back(change, value), is_plain_map(change, later(change), value), value)
        self.assertGreater(met.count(False), 100)

    def test_new_each_time(self):
        map_back(flipping()).clear()
        lasting_back(flipping())["a"] = "on"
        self.assertEqual([map_back(flipping()), lasting_back(flipping())], [{"a": "off", "b": "on"}] * 2)


class FallTest(unittest.TestCase):
    def test_what_is_told(self):
        met = []
        for change in CHANGES:
            told, long = fall(change), lasting_fall(change)
            if told is not None:
                self.assertTrue(is_plain_fall(change, told))
                self.assertIs(is_fall(change, told), True)
            if long is not None:
                self.assertTrue(is_plain_lasting_fall(change, long))
                self.assertIs(is_lasting_fall(change, long), True)
            met.append((told is None, long is None))
        for kind in [(True, True), (True, False), (False, False)]:
            self.assertGreater(met.count(kind), 2, kind)
        self.assertEqual(met.count((False, True)), 0)

    def test_all_rows(self):
        met = []
        for change in CHANGES[::2]:
            rows = list(rows_up_to(change.first.deeds, 3))
            for one in rows:
                for other in rows:
                    met.append(is_fall(change, (one, other)))
                    self.assertIs(met[-1], is_plain_fall(change, (one, other)))
        self.assertGreater(min(met.count(True), met.count(False)), 50)

    def test_rows_ahead_and_behind(self):
        met = []
        for seed in range(1500):
            pick = random.Random(seed)
            change = CHANGES[seed % len(CHANGES)]
            value = tuple(
                tuple([pick.choice(change.first.deeds) for _ in range(pick.randint(0, 4))] for _ in range(2)) for _ in range(2)
            )
            met.append(is_lasting_fall(change, value))
            self.assertIs(met[-1], is_plain_lasting_fall(change, value))
        self.assertGreater(min(met.count(True), met.count(False)), 50)

    def test_falls_of_the_wheel(self):
        wheel = forgetful()
        for one, other, expected in [
            ([], ["go"], True), (["go"], [], True), (["go"], ["go", "go"], True), ([], [], False), (["go"] * 3, [], False),
            (["go"] * 7, ["go"] * 5, True),
        ]:
            self.assertIs(is_fall(value=(one, other), change=wheel), expected)
            for cut in range(len(one) + 1):
                value = ((one[:cut], one[cut:]), (other, []))
                self.assertIs(is_lasting_fall(value=value, change=wheel), expected)
        self.assertIs(is_fall(fading(), ([], ["go"])), False)
        self.assertIs(is_lasting_fall(fading(), (([], ["go"]), (["go"], ["go"]))), True)
        self.assertIs(is_lasting_fall(fading(), ((["go"], []), (["go"], ["go"]))), False)

    def test_values_of_any_kind(self):
        for change in (forgetful(), merging(), fading()):
            short, long = ([], [change.first.deeds[0]]), lasting_fall(change)
            for value in any_values() + list(variants(short)) + list(variants(long)) + [list(short), list(long), short[::-1]]:
                self.assertIs(is_fall(change, value), is_plain_fall(change, value), value)
                self.assertIs(is_lasting_fall(change, value), is_plain_lasting_fall(change, value), value)
            for value in any_values():
                for told in [(value, []), ([], value), ([value], []), ((value, []), ([], [])), (([], []), ([], value)), (long[0], value)]:
                    self.assertIs(is_fall(change, told), is_plain_fall(change, told))
                    self.assertIs(is_lasting_fall(change, told), is_plain_lasting_fall(change, told))
        self.assertIs(is_fall(forgetful(), ((), ["go"])), False)
        self.assertIs(is_fall(forgetful(), ([], ["nod"])), False)
        self.assertIs(is_lasting_fall(forgetful(), (([], []), ([], ("go",)))), False)

    def test_new_each_time(self):
        for tell in (fall, lasting_fall):
            told = tell(forgetful())
            again = tell(forgetful())
            for one in told:
                (one if tell is fall else one[0]).append("go")
            self.assertEqual(tell(forgetful()), again)
        for change in CHANGES:
            rows = [row for one in lasting_fall(change) or () for row in one]
            self.assertEqual(len({id(row) for row in rows}), len(rows))


if __name__ == "__main__":
    unittest.main()
