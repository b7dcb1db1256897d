import itertools
import unittest

from lateeditions.errors import BadProgram, BadRow, BadValues, NoDeed
from lateeditions.programs import (
    all_values, case_of, done, first_values, idle_cases, is_program, is_values, played, shown,
)
from support import (
    LAMP, SWITCH, WORDS, any_values, deep, full, made_program, nested, not_programs, parts_of, refused,
)


def with_term(term, top=8):
    """A program whose deed sets y to a term over x and y."""
    return ((("x", 5, 3), ("y", top, min(2, top))), (("go", ((None, (("y", term),)),)),), ((None, "s"),))


def with_condition(condition):
    """A program whose deed has a first case with a condition over x and y."""
    return ((("x", 5, 3), ("y", 8, 2)), (("go", ((condition, ()), (None, ()))),), ((condition, "yes"), (None, "no")))


class IsProgramTest(unittest.TestCase):
    def test_programs(self):
        for program in [LAMP, SWITCH] + [made_program(seed) for seed in range(100)]:
            self.assertIs(is_program(program), True)
        self.assertIs(is_program(value=LAMP), True)

    def test_edges_that_are_allowed(self):
        shows = ((None, "s"),)
        go = (("go", ()),)
        for registers in [
            (("a", 0, 0),), (("abcdefgh", 8, 8),), (("a", 4, 0), ("b", 3, 0), ("c", 2, 0)), (("a", 8, 0), ("b", 5, 0)),
            (("shows", 1, 1),), (("a", 0, 0), ("b", 0, 0), ("c", 8, 0)),
        ]:
            self.assertIs(is_program((registers, go, shows)), True)
        three = (("a", 1, 0), ("b", 1, 0), ("c", 1, 0))
        cases = ((None, (("c", 1), ("a", 99), ("b", 0))),) * 9
        self.assertIs(is_program((three, tuple((name, cases) for name in "abcd"), shows)), True)
        nine = ((("is", "a", "b"), "s"),) * 8 + shows
        self.assertIs(is_program((three, go, nine)), True)
        self.assertIs(is_program(((("x", 1, 0),), (("x", ()),), ((None, "x"),))), True)

    def test_values_that_are_none(self):
        for value in any_values() + not_programs():
            self.assertIs(is_program(value), False, value)

    def test_bools_and_lists_in_a_program(self):
        (registers, deeds, shows) = SWITCH
        self.assertEqual(((("on", True, 0),), deeds, shows), SWITCH)
        for wrong in [
            ((("on", True, 0),), deeds, shows), ((("on", 1, False),), deeds, shows),
            (registers, (("set", ((None, (("on", True),)),)), deeds[1]), shows),
            (registers, deeds, ((("is", "on", True), "bright"), (None, "dark"))),
            (registers, deeds, ((["is", "on", 1], "bright"), (None, "dark"))),
            (registers, (("set", ((None, (["on", 1],)),)), deeds[1]), shows),
        ]:
            self.assertIs(is_program(wrong), False)

    def test_levels(self):
        self.assertIs(is_program(with_term(deep(6, "x", "+", 1))), True)
        self.assertIs(is_program(with_term(deep(7, "x", "+", 1))), False)
        check = ("is", "x", 1)
        self.assertIs(is_program(with_condition(deep(5, check, "and", check))), True)
        self.assertIs(is_program(with_condition(deep(6, check, "and", check))), False)
        self.assertIs(is_program(with_condition(("is", deep(5, "x", "min", 1), 1))), True)
        self.assertIs(is_program(with_condition(("is", deep(6, "x", "min", 1), 1))), False)
        self.assertIs(is_program(with_condition(("not", ("not", ("not", ("not", check)))))), True)
        self.assertIs(is_program(with_condition(("not", ("not", ("not", ("not", ("not", check))))))), False)

    def test_parts(self):
        term = ("+", full(4, "x", "+"), full(4, 1, "max"))
        self.assertEqual(parts_of(term), 31)
        self.assertIs(is_program(with_term(term)), False)
        less = ("+", full(4, "x", "+"), ("max", full(3, 1, "min"), full(3, 1, "min")[1]))
        self.assertEqual(parts_of(less), 27)
        self.assertIs(is_program(with_term(less)), True)
        check = ("is", "x", 1)
        four = full(3, check, "and")
        self.assertEqual(parts_of(four), 15)
        condition = ("or", four, ("and", ("and", check, check), ("not", ("is", ("+", "x", 1), 1))))
        self.assertEqual(parts_of(condition), 30)
        self.assertIs(is_program(with_condition(condition)), True)
        more = ("or", four, ("and", ("and", check, check), ("and", check, check)))
        self.assertEqual(parts_of(more), 31)
        self.assertIs(is_program(with_condition(more)), False)
        self.assertIs(is_program(with_condition(("or", four, four))), False)

    def test_very_large_values(self):
        tree = "x"
        for _ in range(30):
            tree = ("+", tree, tree)
        self.assertIs(is_program(with_term(tree)), False)
        self.assertIs(is_program(with_term(deep(29, "x", "+", 1))), False)
        self.assertIs(is_program(nested(tuple, 30)), False)
        self.assertIs(is_program((LAMP[0] * 1000, LAMP[1], LAMP[2])), False)

    def test_words_are_no_names(self):
        for word in WORDS:
            self.assertIs(is_program((((word, 1, 0),), (("go", ()),), ((None, "s"),))), False)
            self.assertIs(is_program(((("a", 1, 0),), ((word, ()),), ((None, "s"),))), False)
            self.assertIs(is_program(((("a", 1, 0),), (("go", ()),), ((None, word),))), False)


class ValuesTest(unittest.TestCase):
    def test_is_values(self):
        program = with_term("x", top=1)
        program = ((("x", 5, 3), ("y", 1, 1)), program[1], program[2])
        for value in itertools.product(range(-1, 7), range(-1, 3)):
            self.assertIs(is_values(program, value), 0 <= value[0] <= 5 and 0 <= value[1] <= 1)
        for value in any_values() + [
            (1,), (1, 1, 1), [1, 1], (True, 1), (1, False), (1, None), (1, "1"), {0: 1, 1: 1}, ((1,), 1), ("x", "y"),
        ]:
            self.assertIs(is_values(program, value), False)
        self.assertIs(is_values(value=(5, 0), program=program), True)

    def test_first_and_all_values(self):
        program = ((("a", 1, 1), ("b", 0, 0), ("c", 2, 1)), (("go", ()),), ((None, "s"),))
        self.assertEqual(first_values(program), (1, 0, 1))
        self.assertEqual(all_values(program), [(0, 0, 0), (0, 0, 1), (0, 0, 2), (1, 0, 0), (1, 0, 1), (1, 0, 2)])
        all_values(program).pop()
        self.assertEqual(len(all_values(program=program)), 6)
        sixty = ((("a", 4, 0), ("b", 3, 0), ("c", 2, 0)), (("go", ()),), ((None, "s"),))
        told = all_values(sixty)
        self.assertEqual(told, sorted(set(told)))
        self.assertEqual(len(told), 60)
        self.assertTrue(all(is_values(sixty, values) for values in told))


class ReckoningTest(unittest.TestCase):
    def behind(self, term, x, y, top=8):
        return done(with_term(term, top), (x, y), "go")

    def test_terms(self):
        for x in range(6):
            for y in range(9):
                for term, number in [
                    (7, 7), ("x", x), ("y", y), (("+", "x", "y"), x + y), (("-", "x", "y"), x - y),
                    (("min", "x", "y"), min(x, y)), (("max", "x", 4), max(x, 4)), (99, 99),
                    (("+", ("-", 0, "y"), "x"), x - y), (("-", ("-", "x", 1), ("-", "y", 1)), x - y),
                    (("min", ("-", "x", 9), 0), x - 9), (("+", ("-", "x", 9), 9), x),
                    (("max", ("-", 0, "x"), ("-", 0, "y")), max(-x, -y)),
                ]:
                    self.assertEqual(self.behind(term, x, y), (x, max(0, min(8, number))))

    def test_top_of_zero(self):
        self.assertEqual(self.behind(5, 1, 0, top=0), (1, 0))

    def test_conditions(self):
        for x in range(6):
            for y in range(9):
                for condition, holds in [
                    (("is", "x", "y"), x == y), (("below", "x", "y"), x < y), (("not", ("is", "x", 0)), x != 0),
                    (("and", ("below", "x", 3), ("below", 2, "y")), x < 3 and 2 < y),
                    (("or", ("below", "x", 3), ("below", 2, "y")), x < 3 or 2 < y),
                    (("is", ("-", "x", "y"), ("-", "x", "y")), True), (("below", ("-", "x", "y"), 0), x < y),
                    (None, True),
                ]:
                    if condition is not None:
                        program = with_condition(condition)
                        self.assertEqual(shown(program, (x, y)), "yes" if holds else "no")
                        self.assertEqual(case_of(program, (x, y), "go"), 0 if holds else 1)

    def test_settings_are_reckoned_for_the_values_from_before(self):
        swap = ((("x", 3, 1), ("y", 2, 0)), (("go", ((None, (("x", "y"), ("y", "x"))),)),), ((None, "s"),))
        self.assertEqual(done(swap, (3, 1), "go"), (1, 2))
        self.assertEqual(done(swap, (0, 2), "go"), (2, 0))

    def test_first_case_that_holds_none_and_no_case(self):
        cases = ((("is", "x", 1), (("x", 2),)), (("below", "x", 2), (("x", 3),)), (("is", "x", 3), ()))
        program = ((("x", 4, 1), ("y", 1, 1)), (("go", cases), ("wait", ())), ((None, "s"),))
        for x, behind, position in [(0, 3, 1), (1, 2, 0), (2, 2, None), (3, 3, 2), (4, 4, None)]:
            self.assertEqual(done(program, (x, 1), "go"), (behind, 1))
            self.assertEqual(case_of(program, (x, 1), "go"), position)
            self.assertEqual(done(program, (x, 0), "wait"), (x, 0))
            self.assertIs(case_of(program, (x, 0), "wait"), None)

    def test_a_none_ahead_of_other_cases(self):
        program = ((("x", 2, 0),), (("go", ((None, (("x", 1),)), (None, (("x", 2),)))),), ((None, "s"),))
        self.assertEqual([done(program, (0,), "go"), case_of(program, (0,), "go")], [(1,), 0])
        self.assertEqual(idle_cases(program), [("go", 1)])

    def test_played(self):
        self.assertEqual(played(LAMP, (1,), []), (1,))
        for seed in range(30):
            program = made_program(seed)
            names = [name for name, _ in program[1]]
            for values in all_values(program)[:5]:
                for row in itertools.product(names, repeat=3):
                    behind = values
                    for deed in row:
                        behind = done(program, behind, deed)
                    self.assertEqual(played(program, values, list(row)), behind)
                    self.assertIs(is_values(program, behind), True)

    def test_shown_of_many(self):
        shows = tuple((("is", "x", k), "abcdefgh"[k]) for k in range(8)) + ((None, "z"),)
        program = ((("x", 8, 0),), (("go", ()),), shows)
        self.assertEqual([shown(program, (k,)) for k in range(9)], list("abcdefghz"))


class IdleCasesTest(unittest.TestCase):
    def test_ordinary(self):
        self.assertEqual(idle_cases(LAMP), [])
        cases = ((("is", "x", 4), ()), (("is", "x", 1), ()), (("is", "x", 0), (("x", 1),)))
        program = ((("x", 4, 0),), (("zap", cases), ("act", cases[::-1])), ((None, "s"),))
        self.assertEqual(idle_cases(program), [("zap", 0), ("act", 2)])
        self.assertEqual(idle_cases(program=program), [("zap", 0), ("act", 2)])
        idle_cases(program).append(1)
        self.assertEqual(len(idle_cases(program)), 2)

    def test_against_a_plain_search(self):
        for seed in range(60):
            program = made_program(seed)
            come = [first_values(program)]
            for values in come:
                for deed, _ in program[1]:
                    if done(program, values, deed) not in come:
                        come.append(done(program, values, deed))
            plain = [
                (deed, position) for deed, cases in program[1] for position in range(len(cases))
                if not any(case_of(program, values, deed) == position for values in come)
            ]
            self.assertEqual(idle_cases(program), plain)


class RefusalsTest(unittest.TestCase):
    def test_programs_come_first(self):
        for value in any_values() + not_programs():
            refused(self, BadProgram, value, first_values, value)
            refused(self, BadProgram, value, all_values, value)
            refused(self, BadProgram, value, idle_cases, value)
            refused(self, BadProgram, value, is_values, value, None)
            refused(self, BadProgram, value, shown, value, None)
            refused(self, BadProgram, value, done, value, None, None)
            refused(self, BadProgram, value, case_of, value, None, None)
            refused(self, BadProgram, value, played, value, None, None)

    def test_values_come_next(self):
        for value in any_values() + [(3,), (-1,), [1], (0, 0)]:
            if not is_values(LAMP, value):
                refused(self, BadValues, value, shown, LAMP, value)
                for told in ["up", "nosuch", None]:
                    refused(self, BadValues, value, done, LAMP, value, told)
                    refused(self, BadValues, value, case_of, LAMP, value, told)
                refused(self, BadValues, value, played, LAMP, value, ["up"])
                refused(self, BadValues, value, played, LAMP, value, None)
        self.assertEqual((True,), (1,))
        refused(self, BadValues, (True,), shown, LAMP, (True,))

    def test_deeds(self):
        for value in any_values() + ["level", "dark", ("up",), ["up"]]:
            refused(self, NoDeed, value, done, LAMP, (1,), value)
            refused(self, NoDeed, value, case_of, LAMP, (1,), value)
            refused(self, BadRow, 0, played, LAMP, (1,), [value])
            refused(self, BadRow, 2, played, LAMP, (1,), ["up", "down", value, value])

    def test_rows_that_are_no_lists(self):
        for value in any_values() + [("up",), "up", {"up": 1}]:
            if not isinstance(value, list):
                refused(self, BadRow, 0, played, LAMP, (1,), value)

    def test_by_name(self):
        self.assertEqual(done(deed="up", values=(1,), program=LAMP), (2,))
        self.assertEqual(case_of(deed="up", values=(1,), program=LAMP), 0)
        self.assertEqual(played(row=["up"], values=(1,), program=LAMP), (2,))
        self.assertEqual(shown(values=(1,), program=LAMP), "dim")
        self.assertEqual(first_values(program=LAMP), (0,))


if __name__ == "__main__":
    unittest.main()
