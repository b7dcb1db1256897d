import unittest

from lateeditions.errors import BadProgram
from lateeditions.printing import format_change, format_program
from lateeditions.reading import parse_program
from support import LAMP, SWITCH, TOLAMP, any_values, made_program, not_programs, refused

REGISTERS = (("x", 5, 3), ("y", 8, 2))


def term_text(term):
    """The canonical text of a term, as it stands in a program's text."""
    program = (REGISTERS, (("go", ((None, (("x", term),)),)),), ((None, "s"),))
    return format_program(program).split("\n")[2][len("deed go: do x = "):]


def condition_text(condition):
    program = (REGISTERS, (("go", ((condition, ()),)),), ((None, "s"),))
    return format_program(program).split("\n")[2][len("deed go: when "):-len(" do none")]


def without_a_pair(text):
    """All texts with one pair of brackets left out (those of min and max too)."""
    opened = []
    for k, sign in enumerate(text):
        if sign == "(":
            opened.append(k)
        elif sign == ")":
            at = opened.pop()
            yield text[:at] + text[at + 1:k] + text[k + 1:]


class ProgramTextTest(unittest.TestCase):
    def test_whole_texts(self):
        self.assertEqual(format_program(program=LAMP), (
            "register level 0 to 2 from 0\ndeed up: do level = level + 1\n"
            "deed down: when level is 0 do none; do level = level - 1\n"
            "show: when level is 0 dark; when level is 1 dim; bright"
        ))
        self.assertEqual(format_program(SWITCH), (
            "register on 0 to 1 from 0\ndeed set: do on = 1\ndeed clear: do on = 0\nshow: when on is 1 bright; dark"
        ))
        cases = ((("not", ("below", "x", "y")), (("y", 99), ("x", ("min", 0, "y")))), (None, ()))
        self.assertEqual(format_program((REGISTERS, (("go", cases), ("no", ())), ((None, "s"),))), (
            "register x 0 to 5 from 3\nregister y 0 to 8 from 2\n"
            "deed go: when not x below y do y = 99, x = min (0, y); do none\ndeed no: none\nshow: s"
        ))

    def test_terms(self):
        for term, text in [
            (0, "0"), (99, "99"), ("x", "x"), (("+", "x", 1), "x + 1"), (("-", ("+", "x", 1), "y"), "x + 1 - y"),
            (("+", "x", ("-", 1, "y")), "x + (1 - y)"), (("-", "x", ("+", 1, "y")), "x - (1 + y)"),
            (("+", ("-", ("+", 1, 2), 3), 4), "1 + 2 - 3 + 4"), (("+", 1, ("+", 2, ("+", 3, 4))), "1 + (2 + (3 + 4))"),
            (("min", ("+", "x", 1), ("max", 2, "y")), "min (x + 1, max (2, y))"),
            (("-", ("min", 1, 2), ("max", 3, 4)), "min (1, 2) - max (3, 4)"),
            (("max", ("min", ("-", 1, 2), 3), ("-", 1, ("-", 2, 3))), "max (min (1 - 2, 3), 1 - (2 - 3))"),
            (("+", ("+", 1, ("-", 2, 3)), ("min", 1, 2)), "1 + (2 - 3) + min (1, 2)"),
        ]:
            self.assertEqual(term_text(term), text)

    def test_conditions(self):
        one, two, three = ("is", "x", 1), ("below", "x", 2), ("is", 3, "y")
        for condition, text in [
            (one, "x is 1"), (two, "x below 2"), (("is", ("+", "x", 1), ("-", 1, ("-", 2, 3))), "x + 1 is 1 - (2 - 3)"),
            (("and", one, two), "x is 1 and x below 2"), (("or", one, two), "x is 1 or x below 2"),
            (("not", one), "not x is 1"), (("not", ("not", one)), "not not x is 1"),
            (("not", ("and", one, two)), "not (x is 1 and x below 2)"), (("not", ("or", one, two)), "not (x is 1 or x below 2)"),
            (("and", ("not", one), ("not", two)), "not x is 1 and not x below 2"),
            (("or", ("and", one, two), three), "x is 1 and x below 2 or 3 is y"),
            (("or", one, ("and", two, three)), "x is 1 or x below 2 and 3 is y"),
            (("and", ("or", one, two), three), "(x is 1 or x below 2) and 3 is y"),
            (("and", one, ("or", two, three)), "x is 1 and (x below 2 or 3 is y)"),
            (("and", ("and", one, two), three), "x is 1 and x below 2 and 3 is y"),
            (("and", one, ("and", two, three)), "x is 1 and (x below 2 and 3 is y)"),
            (("or", ("or", one, two), three), "x is 1 or x below 2 or 3 is y"),
            (("or", one, ("or", two, three)), "x is 1 or (x below 2 or 3 is y)"),
            (("or", ("not", ("and", one, two)), three), "not (x is 1 and x below 2) or 3 is y"),
        ]:
            self.assertEqual(condition_text(condition), text)

    def test_there_and_back_and_canonical(self):
        for seed in range(300):
            program = made_program(seed)
            text = format_program(program)
            self.assertEqual(parse_program(text), program)
            self.assertEqual(format_program(parse_program("\n " + text.replace(" ", "  ") + " \n")), text)
            self.assertRegex(text, r"\A[a-z0-9:;,=+\-() \n]*\Z")
            for wrong in ["  ", " :", " ;", " ,", " )", "( ", "\n\n", "min(", "max(", " \n", "\n "]:
                self.assertNotIn(wrong, text)
            self.assertEqual(text.strip(), text)

    def test_no_bracket_is_needless(self):
        for seed in range(120):
            program = made_program(seed)
            lines = format_program(program).split("\n")
            for k, line in enumerate(lines):
                for less in without_a_pair(line):
                    text = "\n".join(lines[:k] + [less] + lines[k + 1:])
                    self.assertNotEqual(self.read(text), program, text)

    def read(self, text):
        try:
            return parse_program(text)
        except ValueError:
            return None

    def test_wrong_programs(self):
        for value in any_values() + not_programs():
            refused(self, BadProgram, value, format_program, value)


class ChangeTextTest(unittest.TestCase):
    def test_ordinary(self):
        self.assertEqual(format_change(value=TOLAMP), (
            "carry: when on is 1 do level = 2\nplay set: up up\nplay clear: down down\n"
            "see dark as dark\nsee dim as bright\nsee bright as bright"
        ))

    def test_edges(self):
        change = ((), (("go", ()), ("hop", ("run",) * 16)), (("s", "t"),))
        self.assertEqual(format_change(change), "carry: none\nplay go: none\nplay hop:" + " run" * 16 + "\nsee s as t")
        cases = ((None, ()), (("or", ("is", 1, 1), ("is", "a", 2)), (("b", ("-", 1, ("-", "a", 1))), ("c", 0))))
        change = (cases, (("go", ("run",)),), (("s", "t"), ("u", "t")))
        self.assertEqual(format_change(change), (
            "carry: do none; when 1 is 1 or a is 2 do b = 1 - (a - 1), c = 0\nplay go: run\nsee s as t\nsee u as t"
        ))


if __name__ == "__main__":
    unittest.main()
