import random
import unittest

from lateeditions.compiling import compiled, is_compiled, program_of, same_programs
from lateeditions.desks import Desk
from lateeditions.errors import BadDeeds, BadProgram, BadSights, BadValues, TooMany
from lateeditions.programs import all_values, done, first_values, is_program, is_values, played, shown
from lateeditions.smallest import desks_alike
from support import (
    LAMP, SWITCH, WORDS, any_values, check_shortest, lamp, letters, made_desk, made_program, not_programs,
    plain_values, refused,
)


def counter(top, begin, step=1, name="x"):
    """A program that counts up by a step, and shows a name below its top."""
    deeds = (("up", ((None, ((name, ("+", name, step)),)),)),)
    return (((name, top, begin),), deeds, ((("below", name, top), "less"), (None, "full")))


TWO = (
    (("x", 4, 0), ("y", 4, 2)),
    (("right", ((None, (("x", ("+", "x", 1)),)),)), ("swap", ((None, (("x", "y"), ("y", "x"))),))),
    ((("is", "x", "y"), "same"), (None, "other")),
)


class CompiledTest(unittest.TestCase):
    def test_made_programs(self):
        small = 0
        for seed in range(150):
            program = made_program(seed)
            pick = random.Random(seed)
            more = [pick.choice(all_values(program)) for _ in range(seed % 3)]
            values = plain_values(program, [first_values(program)] + more)
            if len(values) > 9:
                refused(self, TooMany, 9, compiled, program, more=more)
            else:
                small += 1
                desk, told = compiled(program, more=more)
                self.assertEqual(told, tuple(values))
                self.assertEqual(desk.standings, tuple(letters(len(values))))
                self.assertEqual(desk.deeds, tuple(name for name, _ in program[1]))
                for name, worth in zip(desk.standings, told):
                    self.assertEqual(desk.sight(name), shown(program, worth))
                    for deed in desk.deeds:
                        self.assertEqual(told[letters(9).index(desk.lead(name, [deed]))], done(program, worth, deed))
                self.assertIs(is_compiled(program, desk, dict(zip(desk.standings, told))), True)
        self.assertGreater(small, 50)

    def test_result_is_a_tuple_of_a_desk_and_a_tuple(self):
        result = compiled(LAMP)
        self.assertIsInstance(result, tuple)
        self.assertIsInstance(result[0], Desk)
        self.assertIsInstance(result[1], tuple)

    def test_sequence(self):
        program = (
            (("x", 8, 4),),
            (("down", ((None, (("x", ("-", "x", 2)),)),)), ("up", ((("below", "x", 7), (("x", ("+", "x", 1)),)),))),
            ((None, "s"),),
        )
        self.assertEqual([values[0] for values in compiled(program)[1]], [4, 2, 5, 0, 3, 6, 1, 7])
        self.assertEqual([values[0] for values in compiled(program, more=[(8,)])[1]], [4, 2, 5, 0, 3, 6, 1, 7, 8])

    def test_further_values(self):
        program = counter(8, 6)
        told = [values[0] for values in compiled(program, more=((2,), (7,), (0,), (2,)))[1]]
        self.assertEqual(told, [6, 7, 8, 2, 3, 4, 5, 0, 1])
        self.assertEqual(compiled(program, more=[(8,), (6,)]), compiled(program))
        self.assertEqual(compiled(program, more=[]), compiled(program, more=()))
        desk = compiled(counter(8, 0), more=[])[0]
        self.assertEqual((desk.standings[-1], desk.sight("i"), desk.lead("a", ["up"] * 8)), ("i", "full", "i"))

    def test_nine_and_ten(self):
        still = ((("x", 8, 0), ("y", 1, 0)), (("go", ()),), ((None, "s"),))
        values = [(x, 0) for x in range(9)]
        self.assertEqual(compiled(still, more=values)[1], tuple(values))
        refused(self, TooMany, 9, compiled, still, more=values + [(0, 1)])
        refused(self, TooMany, 9, compiled, still, more=tuple(values + [(0, 1)]))
        refused(self, TooMany, 9, compiled, TWO)

    def test_wrong_values(self):
        for value in any_values():
            if not isinstance(value, (list, tuple)):
                refused(self, BadValues, value, compiled, LAMP, more=value)
            if not is_values(LAMP, value):
                refused(self, BadValues, value, compiled, LAMP, more=[(1,), value, None])
                refused(self, BadValues, value, compiled, LAMP, more=((0,), value))
        wrong = (True,)
        refused(self, BadValues, wrong, compiled, LAMP, more=[(1,), wrong])
        refused(self, BadValues, (3,), compiled, LAMP, more=[(3,), (4,)])
        refused(self, BadValues, 1, compiled, LAMP, more=(1,))

    def test_which_comes_first(self):
        for value in any_values() + not_programs()[:30]:
            refused(self, BadProgram, value, compiled, value, more=None)
            refused(self, BadProgram, value, compiled, value)
        refused(self, BadValues, None, compiled, TWO, more=None)
        refused(self, BadValues, (9, 9), compiled, TWO, more=[(9, 9)])

    def test_more_is_told_by_name_and_stays(self):
        with self.assertRaises(TypeError):
            compiled(LAMP, [(1,)])
        more = [(2,), (1,)]
        compiled(program=LAMP, more=more)
        self.assertEqual(more, [(2,), (1,)])


class IsCompiledTest(unittest.TestCase):
    def test_other_names_and_deeds_in_another_sequence(self):
        desk = Desk(
            ["no", "half", "full", "more"],
            {
                "down": {"no": "no", "half": "no", "full": "half", "more": "half"},
                "up": {"no": "half", "half": "more", "full": "more", "more": "full"},
            },
            {"no": "dark", "half": "dim", "full": "bright", "more": "bright"},
        )
        worths = {"more": (2,), "no": (0,), "half": (1,), "full": (2,)}
        self.assertIs(is_compiled(LAMP, desk, worths), True)
        self.assertIs(is_compiled(value=worths, desk=desk, program=LAMP), True)
        for standing in worths:
            for number in range(4):
                if number != worths[standing][0]:
                    self.assertIs(is_compiled(LAMP, desk, {**worths, standing: (number,)}), False)

    def test_wrong_values(self):
        desk, _ = compiled(LAMP)
        right = {"a": (0,), "b": (1,), "c": (2,)}
        self.assertIs(is_compiled(LAMP, desk, right), True)
        wrong = any_values() + [
            {"a": (0,), "b": (1,)}, {**right, "d": (2,)}, {**right, 1: (2,)}, {"a": (0,), "b": (1,), "d": (2,)},
            {**right, "a": 0}, {**right, "b": (True,)}, {**right, "a": (False,)}, {**right, "b": [1]}, {**right, "b": (1, 1)},
            {**right, "c": None}, [("a", (0,)), ("b", (1,)), ("c", (2,))], ((0,), (1,), (2,)), {**right, "c": "2"},
            {"b": (0,), "a": (1,), "c": (2,)},
        ]
        for value in wrong:
            self.assertIs(is_compiled(LAMP, desk, value), False)

    def test_wrong_desks(self):
        ups = {"a": "b", "b": "c", "c": "c"}
        downs = {"a": "a", "b": "a", "c": "b"}
        sights = {"a": "dark", "b": "dim", "c": "bright"}
        right = {"a": (0,), "b": (1,), "c": (2,)}
        self.assertIs(is_compiled(LAMP, Desk(["a", "b", "c"], {"up": ups, "down": downs}, sights), right), True)
        for deeds, shows in [
            ({"up": ups}, sights), ({"up": ups, "down": downs, "hop": downs}, sights), ({"up": ups, "dawn": downs}, sights),
            ({"up": ups, "down": {**downs, "c": "a"}}, sights), ({"up": downs, "down": ups}, sights),
            ({"up": ups, "down": downs}, {**sights, "c": "dim"}),
        ]:
            self.assertIs(is_compiled(LAMP, Desk(["a", "b", "c"], deeds, shows), right), False)
        turned = Desk(["b", "a", "c"], {"up": ups, "down": downs}, sights)
        self.assertIs(is_compiled(LAMP, turned, right), False)

    def test_programs_come_first(self):
        for value in any_values() + not_programs()[:30]:
            refused(self, BadProgram, value, is_compiled, value, lamp(), None)


class SameProgramsTest(unittest.TestCase):
    def check(self, first, second):
        def found(row):
            return shown(first, played(first, first_values(first), row)) != shown(
                second, played(second, first_values(second), row))
        told = same_programs(first, second)
        row = told if told is None else told[1]
        self.assertTrue(told is None or told[0] == "row" and isinstance(told, tuple) and len(told) == 2)
        check_shortest(self, row, [name for name, _ in first[1]], 7, found)
        return told

    def test_made_programs(self):
        kinds = set()
        for seed in range(120):
            first = made_program(seed)
            first = (first[0], first[1][:2], first[2])
            other = made_program(seed + 1000)
            deeds = tuple((name, cases) for (name, _), (_, cases) in zip(first[1], other[1] * 4))
            second = (other[0], deeds, first[2] if seed % 3 else other[2])
            if is_program(second):
                kinds.add(self.check(first, second) is None)
        self.assertEqual(kinds, {True, False})

    def test_long_rows(self):
        self.assertEqual(same_programs(counter(8, 0), counter(7, 0)), ("row", ["up"] * 7))
        self.assertEqual(same_programs(counter(8, 0), counter(8, 1, name="y")), ("row", ["up"] * 7))
        self.assertEqual(same_programs(counter(8, 0), counter(4, 0)), ("row", ["up"] * 4))
        self.assertIsNone(same_programs(counter(8, 0, step=2), counter(4, 0)))
        self.assertEqual(same_programs(counter(1, 1), counter(1, 0)), ("row", []))
        self.check(counter(8, 0), counter(7, 0))

    def test_deeds_in_any_sequence(self):
        turned = (LAMP[0], LAMP[1][::-1], LAMP[2])
        self.assertIsNone(same_programs(LAMP, turned))
        self.assertIsNone(same_programs(second=turned, first=LAMP))

    def test_a_lone_deed(self):
        def with_deeds(*names):
            return ((("x", 0, 0),), tuple((name, ()) for name in names), ((None, "s"),))
        for first, second, name in [
            (["b"], ["a", "b"], "a"), (["b", "c"], ["b"], "c"), (["z", "b"], ["c", "b", "y"], "c"), (["a"], ["b"], "a"),
            (["b"], ["a"], "a"), (["aa", "ab"], ["b", "a"], "a"),
        ]:
            self.assertEqual(same_programs(with_deeds(*first), with_deeds(*second)), ("deeds", name))
        self.assertEqual(same_programs(LAMP, SWITCH), ("deeds", "clear"))

    def test_which_comes_first(self):
        for value in any_values() + not_programs()[:30]:
            refused(self, BadProgram, value, same_programs, value, None)
            refused(self, BadProgram, value, same_programs, LAMP, value)

    def test_new_each_time(self):
        first, second = counter(2, 0), counter(1, 0)
        same_programs(first, second)[1].append("burn")
        self.assertEqual(same_programs(first, second), ("row", ["up"]))


class ProgramOfTest(unittest.TestCase):
    def test_made_desks(self):
        for seed in range(80):
            desk = made_desk(seed, 1 + seed % 9, 1 + seed % 4, 3)
            program = program_of(desk)
            come = desk.come()
            self.assertIs(is_program(program), True)
            self.assertEqual(program[0], (("state", len(come) - 1, 0),))
            self.assertIs(desks_alike(compiled(program)[0], desk), True)
            for number, standing in enumerate(come):
                self.assertEqual(shown(program, (number,)), desk.sight(standing))
                for deed in desk.deeds:
                    behind = come.index(desk.lead(standing, [deed]))
                    self.assertEqual(done(program, (number,), deed), (behind,))

    def test_edges(self):
        one = Desk(["only"], {"stay": {"only": "only"}}, {"only": "plain"})
        self.assertEqual(program_of(one)[0], (("state", 0, 0),))
        names = letters(9)
        steps = dict(zip(names, names[1:] + names[:1]))
        nine = Desk(names, {deed: steps for deed in "abcd"}, {name: name for name in names})
        self.assertEqual(program_of(desk=nine)[0], (("state", 8, 0),))
        self.assertIs(desks_alike(compiled(program_of(nine))[0], nine), True)

    def test_names_that_are_refused(self):
        for word in WORDS:
            bad = Desk(["a"], {"go": {"a": "a"}, word: {"a": "a"}}, {"a": word})
            refused(self, BadDeeds, word, program_of, bad)
            bad = Desk(["a", "b"], {"go": {"a": "b", "b": "b"}}, {"a": "s", "b": word})
            refused(self, BadSights, word, program_of, bad)

    def test_which_name_is_told(self):
        steps = {"a": "c", "b": "b", "c": "a"}
        sights = {"a": "s", "b": "none", "c": "is"}
        refused(self, BadDeeds, "see", program_of, Desk(list("abc"), {"see": steps, "as": steps}, sights))
        refused(self, BadSights, "is", program_of, Desk(list("abc"), {"go": steps}, sights))
        both = Desk(list("abc"), {"go": {"a": "c", "b": "b", "c": "b"}}, sights)
        refused(self, BadSights, "none", program_of, both)

    def test_what_does_not_matter(self):
        steps = {"do": "do", "is": "is"}
        desk = Desk(["do", "is"], {"state": steps}, {"do": "state", "is": "none"})
        program = program_of(desk)
        self.assertEqual(shown(program, first_values(program)), "state")


if __name__ == "__main__":
    unittest.main()
