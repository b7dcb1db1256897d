import unittest

from lateeditions.desks import Desk
from lateeditions.errors import BadDeeds
from lateeditions.likeness import alike, lots
from lateeditions.smallest import desks_alike, desks_parted, smallest
from support import check_shortest, lamp, letters, made_desk, refused, three


def parts(first, second):
    def found(row):
        return first.sight(first.lead(first.start, row)) != second.sight(second.lead(second.start, row))
    return found


class SmallestTest(unittest.TestCase):
    def test_made_desks(self):
        for seed in range(60):
            desk = made_desk(seed, 1 + seed % 9, 1 + seed % 3, 2)
            small = smallest(desk)
            come = desk.come()
            kept = [
                one for k, one in enumerate(come)
                if not any(alike(desk, one, earlier) for earlier in come[:k])
            ]
            self.assertEqual(small.standings, tuple(kept))
            self.assertEqual(small.deeds, desk.deeds)
            self.assertEqual(small.start, desk.start)
            for one in kept:
                self.assertEqual(small.sight(one), desk.sight(one))
                for deed in desk.deeds:
                    self.assertTrue(alike(desk, small.lead(one, [deed]), desk.lead(one, [deed])))
            self.assertEqual(len(lots(small)), len(kept))
            self.assertTrue(desks_alike(desk, small))
            self.assertEqual(smallest(small), small)

    def test_an_earlier_alike_one_that_can_not_come_is_not_kept(self):
        steps = {"a": "c", "b": "a", "c": "a"}
        desk = Desk(["a", "b", "c"], {"go": steps}, {"a": "s", "b": "t", "c": "t"})
        self.assertEqual(smallest(desk), Desk(["a", "c"], {"go": {"a": "c", "c": "a"}}, {"a": "s", "c": "t"}))

    def test_one_and_nine(self):
        one = Desk(["a"], {"go": {"a": "a"}}, {"a": "s"})
        self.assertEqual(smallest(one), one)
        names = letters(9)
        nine = Desk(names, {"go": dict(zip(names, names[1:] + names[:1]))}, {name: "s" for name in names})
        self.assertEqual(smallest(nine), one)
        self.assertEqual(smallest(desk=lamp()), lamp())


class DesksAlikeTest(unittest.TestCase):
    def test_made_desks(self):
        for seed in range(80):
            first = made_desk(seed, 1 + seed % 4, 2, 1 + seed % 2)
            second = made_desk(seed + 1000, 1 + seed % 3, 2, 1 + seed % 2)
            row = desks_parted(first, second)
            check_shortest(self, row, first.deeds, 7, parts(first, second))
            self.assertIs(desks_alike(first, second), row is None)

    def test_long_row(self):
        names = letters(9)
        steps = dict(zip(names, names[1:] + ["i"]))
        sights = {name: "s" for name in names}
        first = Desk(names, {"go": steps}, sights)
        second = Desk(names, {"go": steps}, {**sights, "i": "t"})
        self.assertEqual(desks_parted(first, second), ["go"] * 8)
        self.assertIs(desks_alike(first, second), False)
        self.assertIs(desks_alike(first, smallest(first)), True)

    def test_deeds_in_any_sequence(self):
        cut, press = {"off": "off", "on": "off"}, {"off": "on", "on": "off"}
        turned = Desk(["off", "on"], {"cut": cut, "press": press}, {"off": "dark", "on": "light"})
        self.assertEqual([desks_alike(lamp(), turned), desks_parted(lamp(), turned)], [True, None])
        self.assertIs(desks_alike(second=turned, first=lamp()), True)

    def test_standings_that_can_not_come_do_not_matter(self):
        one = Desk(["a"], {"go": {"a": "a"}}, {"a": "s"})
        two = Desk(["x", "y"], {"go": {"x": "x", "y": "x"}}, {"x": "s", "y": "t"})
        self.assertEqual([desks_alike(one, two), desks_parted(one, two)], [True, None])

    def test_other_deeds(self):
        self.assertIs(desks_alike(three(), lamp()), False)
        self.assertIs(desks_alike(lamp(), three()), False)
        refused(self, BadDeeds, ("press", "cut"), desks_parted, three(), lamp())
        refused(self, BadDeeds, ("press",), desks_parted, first=lamp(), second=three())
        hop = Desk(["off"], {"hop": {"off": "off"}}, {"off": "dark"})
        refused(self, BadDeeds, ("hop",), desks_parted, three(), hop)

    def test_new_each_time(self):
        desk, other = lamp(), Desk(["a"], {"press": {"a": "a"}, "cut": {"a": "a"}}, {"a": "dark"})
        desks_parted(desk, other).append("cut")
        self.assertEqual(desks_parted(desk, other), ["press"])


if __name__ == "__main__":
    unittest.main()
