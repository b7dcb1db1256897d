import itertools
import unittest

from lateeditions.back import lasting_back, map_back
from lateeditions.books import Change
from lateeditions.desks import Desk
from lateeditions.errors import BadNotes
from lateeditions.notesleft import are_notes, back_by, do_notes_last, lasting_notes, noted, notes
from support import (
    any_values, fading, flipping, forgetful, grow, lasting_change, merging, plain_alike_standings, plain_pairs,
    refused, told_changes, variants,
)

CHANGES = list(told_changes(90)) + [flipping(), forgetful(), fading(), merging(), grow()]
# Of these some need two, three or four notes that last.
CHANGES += [lasting_change(seed) for seed in [0, 3, 4, 22, 31, 36, 44, 57, 71, 85, 145, 150, 234, 266, 485, 527, 574, 1876, 4011]]


def all_notes(change, most):
    """All dicts from the standings that can come to notes below a number."""
    come = change.first.come()
    for told in itertools.product(range(most), repeat=len(come)):
        yield dict(zip(come, told))


def are_enough(change, value):
    for one, other in itertools.combinations(change.first.come(), 2):
        if change.carried(one) == change.carried(other) and value[one] == value[other]:
            if not plain_alike_standings(change.first, one, other):
                return False
    return True


def last(change, value):
    """Whether no two that come of one note, wherever carried, go together with one standing and are not alike."""
    for one in value:
        for other in value:
            if value[one] == value[other]:
                for this in plain_pairs(change, one):
                    for that in plain_pairs(change, other):
                        if this[1] == that[1] and not plain_alike_standings(change.first, this[0], that[0]):
                            return False
    return True


def have_form(change, value):
    if value.__class__ is not dict or sorted(map(repr, value)) != sorted(map(repr, change.first.come())):
        return False
    return all(note.__class__ is int and note >= 0 for note in value.values())


class NotesTest(unittest.TestCase):
    def check_few(self, change, told, holds):
        """Holds that notes are numbered without a gap, and that no fewer would do."""
        many = len(set(told.values()))
        self.assertEqual(set(told.values()), set(range(many)))
        self.assertEqual(sorted(told), sorted(change.first.come()))
        self.assertTrue(holds(change, told))
        self.assertFalse(any(holds(change, value) for value in all_notes(change, many - 1)))
        return many

    def test_as_few_as_can_be(self):
        sizes = [self.check_few(change, notes(change=change), are_enough) for change in CHANGES]
        for size in (1, 2, 3):
            self.assertGreater(sizes.count(size), 2, size)

    def test_all_notes(self):
        met = []
        for change in CHANGES:
            for value in all_notes(change, 3):
                met.append(are_notes(value=value, change=change))
                self.assertIs(met[-1], are_enough(change, value))
        self.assertGreater(min(met.count(True), met.count(False)), 100)

    def test_lasting_notes(self):
        sizes = []
        for change in CHANGES:
            told = lasting_notes(change=change)
            come = change.first.come()
            if told is None:
                self.assertFalse(last(change, {one: k for k, one in enumerate(come)}))
                sizes.append(None)
            else:
                sizes.append(self.check_few(change, told, last))
                self.assertTrue(are_notes(change, told))
        for size in (None, 1, 2, 3, 4):
            self.assertGreater(sizes.count(size), 2, size)

    def test_all_lasting_notes(self):
        met = []
        for change in CHANGES[::2]:
            for value in list(all_notes(change, 3))[::2]:
                met.append(do_notes_last(change, value))
                self.assertIs(met[-1], last(change, value))
        self.assertGreater(min(met.count(True), met.count(False)), 100)

    def test_one_note_where_a_map_leads_back(self):
        for change in CHANGES:
            self.assertEqual(map_back(change) is not None, set(notes(change).values()) == {0})
            self.assertEqual(lasting_back(change) is not None, set((lasting_notes(change) or {}).values()) == {0})

    def test_carried_to_several(self):
        # Nothing is carried to one standing, but behind the first deed all go together with one.
        self.assertEqual(notes(fading()), {"a": 0, "b": 0, "c": 0})
        self.assertIsNone(lasting_notes(fading()))
        # As before, but a count is left: only what comes of different standings meets.
        first = Desk(["a", "b", "c"], {"go": {"a": "b", "b": "c", "c": "a"}}, {"a": "p", "b": "q", "c": "r"})
        second = Desk(
            ["d", "e", "f", "g", "h"], {"sink": {"d": "f", "e": "f", "f": "g", "g": "h", "h": "f"}},
            {one: "p" for one in "defgh"},
        )
        change = Change(first, second, {"a": "d", "b": "e", "c": "e"}, {"go": ["sink"]}, {"p": "p"})
        self.assertEqual(sorted(set(notes(change).values())), [0, 1])
        told = lasting_notes(change)
        self.assertEqual(sorted(told.values()), [0, 1, 2])
        self.assertIs(do_notes_last(change, {"a": 0, "b": 0, "c": 1}), False)
        self.assertIs(are_notes(change, {"a": 0, "b": 0, "c": 1}), True)
        self.assertIs(do_notes_last(change, {"a": 7, "b": 10 ** 59, "c": 0}), True)

    def test_few_where_notes_given_at_first_sight_are_more(self):
        # A path of quarrels a, b, c, d: who gives the first note that fits to a, d, b and then c needs three.
        path = [("a", "b"), ("b", "c"), ("c", "d")]
        quarrels = path + [(other, one) for one, other in path]
        told = noted(["a", "d", "b", "c"], quarrels, 2, {})
        self.assertEqual(sorted(set(told.values())), [0, 1])
        for one, other in path:
            self.assertNotEqual(told[one], told[other])
        self.assertIsNone(noted(["a", "d", "b", "c"], quarrels, 1, {}))
        self.assertIsNone(noted(["a", "b", "c"], quarrels + [("a", "c"), ("c", "a")], 2, {}))

    def test_values_of_any_kind(self):
        for change in (flipping(), forgetful(), merging(), fading()):
            right = notes(change)
            for value in any_values() + list(variants(right)) + list(variants({one: k for k, one in enumerate(right)})):
                formed = have_form(change, value)
                self.assertIs(are_notes(change, value), formed and are_enough(change, value), value)
                self.assertIs(do_notes_last(change, value), formed and last(change, value), value)
                if not formed or not are_enough(change, value):
                    refused(self, BadNotes, value, back_by, change, value)
        for value in [{"off": 0, "nosuch": 0}, {"off": False, "on": False}, {"off": 0, "on": True}, {"off": -1, "on": 0}, {"off": 0}, {"off": 0, "on": "0"}]:
            self.assertIs(are_notes(flipping(), value), False)
            self.assertIs(do_notes_last(flipping(), value), False)
            refused(self, BadNotes, value, back_by, flipping(), value)
        self.assertIs(are_notes(flipping(), {"off": 3, "on": 10 ** 59}), True)

    def test_standings_that_can_not_come(self):
        desk = Desk(["a", "b"], {"go": {"a": "a", "b": "a"}}, {"a": "p", "b": "q"})
        change = Change(desk, desk, {"a": "a", "b": "a"}, {"go": []}, {"p": "p", "q": "q"})
        self.assertEqual([notes(change), lasting_notes(change)], [{"a": 0}, {"a": 0}])
        for value in [{"a": 0, "b": 1}, {"b": 0}, {}]:
            self.assertIs(are_notes(change, value), False)
            self.assertIs(do_notes_last(change, value), False)
            refused(self, BadNotes, value, back_by, change, value)

    def test_new_each_time(self):
        notes(flipping()).clear()
        lasting_notes(flipping()).clear()
        back_by(flipping(), notes(flipping())).clear()
        self.assertEqual([notes(flipping()), lasting_notes(flipping())], [{"off": 0, "on": 0}] * 2)


class BackByTest(unittest.TestCase):
    def test_tuples_and_standings(self):
        many = 0
        for change in CHANGES:
            for value in list(all_notes(change, 3))[::5]:
                if not are_enough(change, value):
                    refused(self, BadNotes, value, back_by, change, value)
                    continue
                told = back_by(kept=value, change=change)
                expected = {}
                for one in reversed(change.first.come()):
                    expected[(change.carried(one), value[one])] = one
                self.assertEqual(told, expected)
                for one in change.first.come():
                    self.assertTrue(plain_alike_standings(change.first, told[(change.carried(one), value[one])], one))
                many += len(told)
        self.assertGreater(many, 300)

    def test_the_first_one_stands_for_those_that_are_alike(self):
        desk = Desk(["a", "b", "c"], {"go": {"a": "c", "b": "a", "c": "b"}}, {"a": "p", "b": "p", "c": "p"})
        change = Change(desk, desk, {"a": "a", "b": "a", "c": "a"}, {"go": []}, {"p": "p"})
        self.assertEqual(back_by(change, {"a": 4, "b": 2, "c": 2}), {("a", 4): "a", ("a", 2): "b"})


if __name__ == "__main__":
    unittest.main()
