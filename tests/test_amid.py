import itertools
import random
import unittest

from lateeditions.amid import Round, round_harm
from lateeditions.back import lasting_back, map_back
from lateeditions.errors import BadKey, BadKeys, BadMap, NotNow, TooFar
from support import (
    any_values, dim, fading, flipping, forgetful, grow, lamp, merging, not_maps, plain_alike_standings, refused,
    told_changes,
)

CHANGES = list(told_changes(60)) + [flipping(), forgetful(), fading(), merging(), grow()]


class Story:
    """A round by the words of the document: all is counted anew from its events."""

    def __init__(self, change, keys, events=()):
        self.change, self.keys, self.events = change, keys, list(events)

    def of(self, key):
        return [event for event in self.events if event[1] == key]

    def is_carried(self, key):
        return ("carry", key) in self.events

    def can(self, event):
        word, key = event[0], event[1]
        return {"carry": not self.is_carried(key), "newer": self.is_carried(key), "deed": True}[word]

    def newer_lead(self, standing, event):
        row = self.change.row(event[2]) if event[0] == "deed" else [event[2]]
        return self.change.second.lead(standing, row)

    def standing(self, key):
        carried, standing = 0, self.keys[key]
        for event in self.of(key):
            if event[0] == "carry":
                carried, standing = 1, self.change.carried(standing)
            else:
                standing = self.newer_lead(standing, event) if carried else self.change.first.lead(standing, [event[2]])
        return (carried, standing)

    def due(self, key):
        standing = self.change.carried(self.keys[key])
        for event in self.of(key):
            if event[0] != "carry":
                standing = self.newer_lead(standing, event)
        return standing

    def home(self, key):
        if any(event[0] == "newer" for event in self.of(key)):
            return None
        return self.change.first.lead(self.keys[key], [event[2] for event in self.of(key) if event[0] == "deed"])

    def harms(self):
        if not all(self.is_carried(key) for key in self.keys):
            return False
        return any(not plain_alike_standings(self.change.second, self.standing(key)[1], self.due(key)) for key in self.keys)


def round_events(change, keys):
    return (
        [("carry", key) for key in keys] + [("deed", key, deed) for key in keys for deed in change.first.deeds]
        + [("newer", key, deed) for key in keys for deed in change.second.deeds]
    )


def made_keys(pick, change):
    names = pick.sample(["k", "ab", "z", "carry", "abcdefgh"], pick.randint(1, 4))
    return {key: pick.choice(change.first.come()) for key in names}


def stories(many):
    for seed in range(many):
        pick = random.Random(seed)
        change = CHANGES[seed % len(CHANGES)]
        story = Story(change, made_keys(pick, change))
        for _ in range(14):
            events = [event for event in round_events(change, list(story.keys)) if story.can(event)]
            story.events.append(pick.choice(events))
        yield pick, change, story


class RoundTest(unittest.TestCase):
    def check(self, tour, story):
        self.assertEqual(tour.left(), sorted(key for key in story.keys if not story.is_carried(key)))
        self.assertEqual(tour.history(), story.events)
        for key in story.keys:
            self.assertEqual(tour.standing(key), story.standing(key))
            self.assertIsInstance(tour.standing(key)[0], int)
            self.assertNotIsInstance(tour.standing(key)[0], bool)
            self.assertEqual([tour.due(key), tour.home(key)], [story.due(key), story.home(key)])

    def test_against_the_words(self):
        homes = []
        for _, change, story in stories(130):
            tour, told = Round(change, story.keys), Story(change, story.keys)
            for event in story.events:
                for other in round_events(change, list(story.keys)):
                    if not told.can(other):
                        refused(self, NotNow, other, tour.do, other)
                self.check(tour, told)
                self.assertIsNone(tour.do(event))
                told.events.append(event)
            self.check(tour, told)
            homes += [told.home(key) is None for key in told.keys]
        self.assertGreater(min(homes.count(True), homes.count(False)), 20)

    def test_no_events(self):
        change = grow()
        keys = {"k": "on", "m": "off"}
        tour = Round(keys=keys, change=change)
        tour.do(event=("carry", "m"))
        for value in any_values() + [
            ("carry", "m"), ("carry", "x"), ("carry",), ("carry", "k", "press"), ["carry", "k"], ("carry", ["k"]), ("Carry", "k"),
            ("deed", "k"), ("deed", "k", "up"), ("deed", "m", "down"), ("deed", "x", "press"), ["deed", "k", "press"],
            ("deed", "k", ["press"]), ("deed", "k", "press", "press"), ("deed", None, "press"), ("deed", "press", "k"),
            ("newer", "k", "up"), ("newer", "m", "press"), ("newer", "m"), ("newer", "m", None), ("deed", "k", None), ("newer", "m", 1),
            (None, "k"), (("carry",), "k"), ("newer", "m", ("up",)), ("send", "k", "press"), ("done", "k", "press"), ("k", "carry"),
            ("deed", "k", ("press",)), ("deed", True, "press"), (1, "k", "press"),
        ]:
            refused(self, NotNow, value, tour.do, value)
        self.check(tour, Story(change, keys, [("carry", "m")]))
        for event in [("deed", "k", "press"), ("deed", "m", "press"), ("newer", "m", "down"), ("carry", "k"), ("newer", "k", "up")]:
            tour.do(event)
        refused(self, NotNow, ("carry", "k"), tour.do, ("carry", "k"))

    def test_keys(self):
        change = grow()
        for keys in [{"k": "on"}, {"a": "on", "b": "off", "c": "on", "abcdefgh": "off"}]:
            self.assertEqual(Round(change, keys).left(), sorted(keys))
        for value in any_values() + [
            {}, {one: "on" for one in "abcde"}, {"K": "on"}, {"": "on"}, {"abcdefghi": "on"}, {"k": "high"}, {"k": None},
            {"k": ["on"]}, {1: "on"}, {None: "on"}, {("k",): "on"}, [("k", "on")], {"k": "on", "m": "nosuch"}, {"k": "on", "m n": "on"},
            "k",
        ]:
            refused(self, BadKeys, value, Round, change, value)
        # Places that can not come, and such as are carried, are no standings here.
        lost = [(change, one) for change in CHANGES for one in change.first.standings if one not in change.first.come()]
        for change, one in lost[:20]:
            refused(self, BadKeys, (keys := {"k": one}), Round, change, keys)
        self.assertGreater(len(lost), 10)

    def test_the_keys_are_copied(self):
        keys = {"k": "on"}
        tour = Round(grow(), keys)
        keys["k"] = "off"
        keys["m"] = "on"
        self.assertEqual([tour.standing("k"), tour.home("k"), tour.left()], [(0, "on"), "on", ["k"]])
        tour.left().clear()
        tour.history().append(None)
        self.assertEqual([tour.left(), tour.history()], [["k"], []])

    def test_bad_keys(self):
        tour = Round(grow(), {"k": "on"})
        for value in any_values() + ["m", "K", ("k",), ["k"], {"k": "on"}]:
            for call in (tour.standing, tour.due, tour.home):
                refused(self, BadKey, value, call, value)
        self.assertEqual([tour.standing(key="k"), tour.due(key="k"), tour.home(key="k")], [(0, "on"), "high", "on"])

    def test_home_of_a_key_with_newer_deeds(self):
        tour = Round(grow(), {"k": "on", "m": "off"})
        for event in [("carry", "k"), ("deed", "k", "press")]:
            tour.do(event)
        self.assertEqual(tour.home("k"), "off")
        tour.do(("newer", "k", "up"))
        self.assertEqual([tour.home("k"), tour.home("m")], [None, "off"])
        tour.do(("deed", "k", "cut"))
        self.assertIsNone(tour.home("k"))
        tour.undo(2)
        self.assertEqual(tour.home("k"), "off")

    def test_given_up(self):
        alike = 0
        for pick, change, story in stories(80):
            tour = Round(change, story.keys)
            for event in story.events:
                tour.do(event)
            back = {one: pick.choice(change.first.standings) for one in change.second.standings}
            told = tour.give_up(back)
            self.assertEqual(told, {
                key: back[story.standing(key)[1]] if story.is_carried(key) else story.standing(key)[1] for key in story.keys
            })
            self.check(tour, story)
            told.clear()
            lasting = lasting_back(change)
            if lasting is not None:
                for key, standing in tour.give_up(back=lasting).items():
                    if tour.home(key) is not None:
                        self.assertTrue(plain_alike_standings(change.first, standing, tour.home(key)))
                        alike += 1
        self.assertGreater(alike, 20)

    def test_given_up_by_what_is_no_map(self):
        tour = Round(grow(), {"k": "on"})
        for moment, event in enumerate([("deed", "k", "cut"), ("deed", "k", "press"), ("carry", "k")]):
            for value in not_maps(dim(), lamp()):
                refused(self, BadMap, value, tour.give_up, value)
            self.assertEqual(len(tour.history()), moment)
            tour.do(event)
        # A map that is not right is one all the same.
        self.assertEqual(tour.give_up({"off": "on", "low": "on", "high": "off"}), {"k": "off"})

    def test_undone(self):
        for _, change, story in stories(25):
            for many in range(len(story.events) + 1):
                tour = Round(change, story.keys)
                for event in story.events:
                    tour.do(event)
                self.assertIsNone(tour.undo(many=many))
                self.check(tour, Story(change, story.keys, story.events[:len(story.events) - many]))
                # The history is told anew by another round.
                other = Round(change, story.keys)
                for event in tour.history():
                    other.do(event)
                self.check(other, Story(change, story.keys, tour.history()))

    def test_too_far(self):
        tour = Round(grow(), {"k": "on"})
        for count in range(3):
            for value in any_values() + [count + 1, -1, 1.0, "1", True]:
                if value.__class__ is not int or not 0 <= value <= count:
                    refused(self, TooFar, count, tour.undo, value)
            tour.do(("deed", "k", "press"))
        self.assertEqual(len(tour.history()), 3)


class RoundHarmTest(unittest.TestCase):
    def test_led_through_a_round(self):
        met = []
        for change in CHANGES:
            told = round_harm(change=change)
            met.append(told is None)
            if told is not None:
                self.assertIsInstance(told, list)
                story = Story(change, {"k": change.first.start}, told)
                tour = Round(change, story.keys)
                for event in told:
                    tour.do(event)
                self.assertEqual(tour.left(), [])
                self.assertTrue(story.harms())
                self.assertFalse(plain_alike_standings(change.second, tour.standing("k")[1], tour.due("k")))
        self.assertGreater(min(met.count(True), met.count(False)), 5)

    def test_none_just_where_deeds_and_the_carry_change_places(self):
        for change in CHANGES:
            same = all(
                plain_alike_standings(
                    change.second, change.carried(change.first.lead(one, [deed])),
                    change.second.lead(change.carried(one), change.row(deed)),
                )
                for one in change.first.come() for deed in change.first.deeds
            )
            self.assertIs(round_harm(change) is None, same)

    def test_none_just_where_no_row_harms(self):
        for change in CHANGES[::3]:
            harmed = False
            for many in range(6 if len(change.first.deeds) == 1 else 5):
                for row in itertools.product(change.first.deeds, repeat=many):
                    for at in range(many + 1):
                        events = [("deed", "k", deed) for deed in row]
                        events.insert(at, ("carry", "k"))
                        harmed = harmed or Story(change, {"k": change.first.start}, events).harms()
            if harmed:
                self.assertIsNotNone(round_harm(change))
            if round_harm(change) is None:
                self.assertFalse(harmed)

    def test_several_keys(self):
        met = []
        for _, change, story in stories(120):
            story.events += [("carry", key) for key in story.keys if not story.is_carried(key)]
            met.append(story.harms())
            if met[-1]:
                self.assertIsNotNone(round_harm(change))
        self.assertGreater(min(met.count(True), met.count(False)), 10)

    def test_new_each_time(self):
        change = fading()
        told = round_harm(change)
        self.assertIsNotNone(told)
        round_harm(change).clear()
        self.assertEqual(round_harm(change), told)
        self.assertIsNotNone(map_back(change))


if __name__ == "__main__":
    unittest.main()
