import random
import re
import unittest

from lateeditions.errors import BadProgram, BadText
from lateeditions.printing import format_change, format_program
from lateeditions.reading import parse_change, parse_program
from support import (
    LAMP, SWITCH, TOLAMP, WORDS, any_values, made_condition, made_program, made_told_change, not_programs, refused,
    sum_of,
)

HEAD = "register x 0 to 5 from 3\nregister y 0 to 8 from 2\n"
TAIL = "\nshow: s"
SWITCH_TEXT = (
    "register on 0 to 1 from 0\ndeed set: do on = 1\ndeed clear: do on = 0\nshow: when on is 1 bright; dark"
)
CHANGE_TEXT = (
    "carry: when on is 1 do level = 2\nplay set: up up\nplay clear: down down\n"
    "see dark as dark\nsee dim as bright\nsee bright as bright"
)


def spot_of(marked):
    """The text without its mark @, and the spot of what stands behind the mark."""
    ahead = marked.split("@")[0]
    line = ahead.count("\n") + 1
    return marked.replace("@", ""), (line, len(ahead.split("\n")[-1]) + 1)


def loose_term(pick, term):
    """A text of a term with needless brackets and no needless blanks."""
    if isinstance(term, tuple):
        one, other = loose_term(pick, term[1]), loose_term(pick, term[2])
        if term[0] in ("min", "max"):
            text = f"{term[0]}({one},{other})"
        else:
            text = f"{one}{term[0]}" + (f"({other})" if isinstance(term[2], tuple) else other)
    else:
        text = str(term)
    return f"({text})" if pick.random() < 0.4 else text


def loose_condition(pick, condition):
    sign = condition[0]
    if sign in ("is", "below"):
        text = f"{loose_term(pick, condition[1])} {sign} {loose_term(pick, condition[2])}"
    elif sign == "not":
        text = f"not({loose_condition(pick, condition[1])})"
    else:
        text = f"({loose_condition(pick, condition[1])}){sign}({loose_condition(pick, condition[2])})"
    return f"({text})" if pick.random() < 0.3 else text


def loose_case(pick, condition, settings):
    told = ",".join(f"{name}={loose_term(pick, term)}" for name, term in settings) or "none"
    return (f"when {loose_condition(pick, condition)} " if condition else "") + "do " + told


def loose_cases(pick, cases):
    return " ; ".join(loose_case(pick, condition, settings) for condition, settings in cases) or "none"


def loose_lines(pick, lines):
    """A text with blanks at both ends of its lines, and lines without tokens between."""
    told = []
    for line in lines:
        told += ["  " * pick.randint(0, 1)] * pick.randint(0, 2)
        told.append(" " * pick.randint(0, 3) + line.replace(" ", " " * pick.randint(1, 3)) + " " * pick.randint(0, 3))
    return "\n".join(told + [""] * pick.randint(0, 2))


def loose_program(pick, program):
    registers, deeds, shows = program
    lines = [f"register {name} 0to {top}from {begin}" for name, top, begin in registers]
    lines += [f"deed {name} :{loose_cases(pick, cases)}" for name, cases in deeds]
    told = [f"when {loose_condition(pick, condition)} {name}" for condition, name in shows[:-1]]
    return loose_lines(pick, lines + ["show:" + ";".join(told + [shows[-1][1]])])


def made_change(seed):
    """Two programs and a program of a change between them."""
    first, second = made_program(seed), made_program(seed + 500)
    return first, second, made_told_change(seed, first, second)


class Furthest:
    """All readings of the tokens of a condition, without looking ahead; keeps the furthest token that fails."""

    def __init__(self, tokens):
        self.tokens = tokens + ["\n"]
        self.far = 0

    def word(self, at, *words):
        if self.tokens[at] in words:
            return {at + 1}
        self.far = max(self.far, at)
        return set()

    def then(self, ends, read):
        return {end for at in ends for end in read(at)}

    def chain(self, at, read, *words):
        ends = found = read(at)
        while ends:
            ends = self.then(self.then(ends, lambda k: self.word(k, *words)), read) - found
            found = found | ends
        return found

    def term(self, at):
        return self.chain(at, self.part, "+", "-")

    def part(self, at):
        ends = self.word(at, "x", "1")
        closed = self.then(self.then(self.word(at, "("), self.term), lambda k: self.word(k, ")"))
        picked = self.then(self.then(self.word(at, "min"), lambda k: self.word(k, "(")), self.term)
        picked = self.then(self.then(picked, lambda k: self.word(k, ",")), self.term)
        return ends | closed | self.then(picked, lambda k: self.word(k, ")"))

    def condition(self, at):
        return self.chain(at, self.both, "or")

    def both(self, at):
        return self.chain(at, self.bare, "and")

    def bare(self, at):
        ends = self.then(self.word(at, "not"), self.bare)
        closed = self.then(self.then(self.word(at, "("), self.condition), lambda k: self.word(k, ")"))
        told = self.then(self.then(self.term(at), lambda k: self.word(k, "is", "below")), self.term)
        return ends | closed | told


class TextsThereAndBackTest(unittest.TestCase):
    def test_canonical_texts_of_programs(self):
        for program in [LAMP, SWITCH] + [made_program(seed) for seed in range(200)]:
            self.assertEqual(parse_program(format_program(program)), program)
        self.assertEqual(parse_program(text=SWITCH_TEXT), SWITCH)

    def test_loose_texts_of_programs(self):
        for seed in range(200):
            program = made_program(seed)
            text = loose_program(random.Random(seed), program)
            self.assertEqual(parse_program(text), program, text)

    def test_changes(self):
        self.assertEqual(parse_change(SWITCH, LAMP, CHANGE_TEXT), TOLAMP)
        self.assertEqual(parse_change(text=CHANGE_TEXT, second=LAMP, first=SWITCH), TOLAMP)
        for seed in range(100):
            first, second, change = made_change(seed)
            text = format_change(change)
            self.assertEqual(parse_change(first, second, text), change)
            pick = random.Random(seed)
            lines = [f"carry: {loose_cases(pick, change[0])}"] + text.split("\n")[1:]
            self.assertEqual(parse_change(first, second, loose_lines(pick, lines)), change)

    def test_from_left_to_right(self):
        text = HEAD + "deed go: do x = 1 - 2 - 3 + (4 - x), y = min (x, max (y, 1)) - 1" + TAIL
        settings = parse_program(text)[1][0][1][0][1]
        self.assertEqual(settings, (
            ("x", ("+", ("-", ("-", 1, 2), 3), ("-", 4, "x"))),
            ("y", ("-", ("min", "x", ("max", "y", 1)), 1)),
        ))

    def test_or_and_not(self):
        for text, condition in [
            ("x is 1 or x is 2 and not x is 3", ("or", "1", ("and", "2", ("not", "3")))),
            ("x is 1 and x is 2 or x is 3", ("or", ("and", "1", "2"), "3")),
            ("x is 1 or x is 2 or x is 3", ("or", ("or", "1", "2"), "3")),
            ("x is 1 and x is 2 and x is 3", ("and", ("and", "1", "2"), "3")),
            ("x is 1 and (x is 2 and x is 3)", ("and", "1", ("and", "2", "3"))),
            ("(x is 1 or x is 2) and x is 3", ("and", ("or", "1", "2"), "3")),
            ("not not (x is 1 and x is 2)", ("not", ("not", ("and", "1", "2")))),
            ("not (x) is 1", ("not", "1")), ("(x) is (1)", "1"), ("((x is 1))", "1"), ("((x) is 1)", "1"),
            ("((x)) is ((1))", "1"), ("not(((x))is 1)or(x is 2)", ("or", ("not", "1"), "2")),
        ]:
            found = parse_program(HEAD + f"deed go: when {text} do none" + TAIL)[1][0][1][0][0]
            self.assertEqual(found, self.tree(condition))

    def tree(self, told):
        if isinstance(told, str):
            return ("is", "x", int(told))
        return (told[0], *[self.tree(one) for one in told[1:]])

    def test_names_that_are_nearly_words(self):
        text = "register registry 0 to 1 from 1\ndeed dee: do registry = registry\nshow: when registry is 0 a; nonee"
        program = parse_program(text)
        self.assertEqual(program[1], (("dee", ((None, (("registry", "registry"),)),)),))
        self.assertEqual(program[2][1], (None, "nonee"))

    def test_edges(self):
        three = "register a 0 to 4 from 0\nregister b 0 to 3 from 0\nregister c 0 to 2 from 2\n"
        nine = "; ".join(["do a = 1, b = 2, c = 3"] * 9)
        four = "\n".join(f"deed {name}: {nine}" for name in "abcd")
        shows = "\nshow: " + "when a is 1 s; " * 8 + "t"
        program = parse_program(three + four + shows)
        self.assertEqual([len(program[0]), len(program[1]), len(program[1][3][1]), len(program[2])], [3, 4, 9, 9])


class BadTextTest(unittest.TestCase):
    def bad(self, marked):
        text, spot = spot_of(marked)
        with self.assertRaises(BadText, msg=text) as caught:
            parse_program(text)
        self.assertEqual(caught.exception.spot, spot, text)

    def bad_deed(self, rest):
        self.bad(HEAD + "deed go: " + rest + ("" if "\n" in rest else TAIL))

    def bad_show(self, rest):
        self.bad(HEAD + "deed go: none\nshow: " + rest)

    def bad_change(self, marked, first=SWITCH, second=LAMP):
        text, spot = spot_of(marked)
        with self.assertRaises(BadText, msg=text) as caught:
            parse_change(first, second, text)
        self.assertEqual(caught.exception.spot, spot, text)

    def test_no_string(self):
        for value in any_values():
            if not isinstance(value, str):
                refused(self, BadText, (1, 1), parse_program, value)
                refused(self, BadText, (1, 1), parse_change, SWITCH, LAMP, value)

    def test_strings_of_all_kinds(self):
        for text, spot in [
            ("", (2, 1)), (" ", (2, 1)), ("\n", (3, 1)), ("\n \n", (4, 1)), ("A", (1, 1)), ("  nosuch", (1, 3)),
            ("show", (1, 1)), ("x" * 1000, (1, 1)), ("register", (1, 9)), ("\n\nregister  ", (3, 9)),
        ]:
            refused(self, BadText, spot, parse_program, text)
            if not text.strip(" \n"):
                refused(self, BadText, spot, parse_change, SWITCH, LAMP, text)

    def test_characters_and_integers(self):
        for marked in [
            "register x 0 to 5 @. from 0", "register @X 0 to 5 from 0", "register x 0 to 5 from @03", "register x @00 to",
            "register x @000", "register x 0 to @100 from 0", "register x 0 to @01 from !", "register x 0 @! 01",
            "deed x 0 to 5 from @#", "register x 0 to 9 from 1@?", "register x 0 to 5 from 3@_", "@\t", "@/ 007",
            HEAD + "deed go: do x = 1; do x = 2; do z = 3 @* 4", HEAD + "deed go: do x = @999",
            HEAD + "deed go: none\nshow: s; s @\"", HEAD + "deed go: none\nshow: s\nshow@!",
            HEAD + "deed go: do x = 1 + @" + "1" * 5000,
        ]:
            self.bad(marked)

    def test_a_later_line_waits_for_its_turn(self):
        self.bad("register x @1 to 5 from 3\n!!")
        self.bad("register x 0 to 5 from @6\n!!")
        self.bad(HEAD + "deed go: none\n@!show: s")
        self.bad(HEAD + "deed go: none\nshow: s\n\n @01")

    def test_registers(self):
        for marked in [
            "@deed", "@registe x", "@1", "@:", "@registerx",
            "register@", "register  @0", "register @register 0 to 5 from 0", "register @abcdefghi 0 to 5 from 0",
            "register x@", "register x @1", "register x @10 to 5", "register x @to", "register x 0@", "register x 0 @from",
            "register x 0 to@", "register x 0 to @x", "register x 0 to @9 from 0", "register x 0 to @10 from 0",
            "register x 0 to @99", "register x 0 to 8@", "register x 0 to 8 @9", "register x 0 to 8 from@  ",
            "register x 0 to 8 from @9", "register x 0 to 2 from @3", "register x 0 to 2 from @y",
            "register x 0 to 2 from 1 @;", "register x 0 to 2 from 1 @register y",
            "register x 0 to 2 from 1\nregister @x 0", "register x 0 to 2 from 1\n@registers y",
            "register x 0 to 8 from 0\nregister y 0 to @6 from 0", "register x 0 to 8 from 0\nregister y 0 to 5 from @6",
            "register x 0 to 4 from 0\nregister y 0 to 3 from 0\nregister z 0 to @3 from 0",
            "register x 0 to 2 from 0\nregister y 0 to 0 from 0\nregister z 0 to 0 from 0\n\n  @register x 0",
            "register x 0 to 2 from 0\nregister y 0 to 0 from 0\nregister z 0 to 0 from 0\n@register",
            "register x 0 to 2 from 0\n@show: s",
        ]:
            self.bad(marked)
        for word in WORDS:
            self.bad(f"register @{word} 0 to 1 from 0")

    def test_ends_of_the_text(self):
        for text, spot in [
            ("register x 0 to 2 from 0", (2, 1)), ("register x 0 to 2 from 0\n", (3, 1)),
            ("register x 0 to 2 from 0\n\n  \n", (5, 1)), (HEAD + "deed go: none", (4, 1)),
            (HEAD + "deed go: none\n   ", (5, 1)), ("\n\n" + HEAD + "deed go: none\n", (7, 1)),
        ]:
            refused(self, BadText, spot, parse_program, text)

    def test_deeds(self):
        for marked in [
            "deed@", "deed @:", "deed @1", "deed @deed", "deed @abcdefghi", "deed go@  ", "deed go @none", "deed go @;",
            "deed go:@", "deed go: none\ndeed @go: none", "deed go: none\n@deer hop", "deed go: none @;",
            "deed go: none @do", "deed a: none\ndeed b: none\ndeed c: none\ndeed d: none\n @deed e: none",
            "deed a: none\ndeed b: none\ndeed c: none\ndeed d: none\n @deed", "@go: none", "deed go: none\n@go: none",
        ]:
            self.bad(HEAD + marked)
        for word in WORDS:
            self.bad(HEAD + f"deed @{word}: none")

    def test_cases(self):
        for rest in [
            "@x = 1", "@;", "@is", "do@", "do @1", "do @=", "do @z = 1", "do @set = 1", "do x@", "do x @1", "do x @is 1",
            "do x =@", "do x = @z", "do x = @when", "do x = @,", "do x = @do", "do x = 1 @x", "do x = 1 @1", "do x = 1 @)",
            "do x = 1 @= 2", "do x = 1 @is 2", "do x = 1 @:", "do x = 1 @when x is 1 do none", "do x = 1,@",
            "do x = 1, @1", "do x = 1, @none", "do x = 1, @x = 2", "do x = 1, y = 2, @x = 3", "do x = 1, y = 2, @z",
            "do x = 1, y = 2,@", "do none @, x = 1", "do none @x", "do none;@", "do none; @none", "do none; @;",
            "do none; @x = 1", "do none @, x", "do x = 1; do y = 1; @show: s",
            "when@", "when @do", "when x @do none", "when x is@", "when x is 1@", "when x is 1 @none", "when x is 1 @;",
            "when x is 1 @when", "when x is 1 @is 1", "when x is 1 @below 1", "when @z is 1 do none", "when x @= 1 do none",
            "when x is @z", "when x is 1 and@", "when x is 1 and @or", "when x is 1 and x @do", "when not@",
            "when not @do", "when not not x @do", "when not (x is 1@", "when (x is 1 @do none", "when (x is 1) @is 1 do none",
            "when (x) @do none", "when (x is 1) @+ 1 is 2", "when x + (1 @is 1) is 1",
            "when x is (1 @is 1) do none", "when ((x) is 1@", "when (@) is 1", "when ((x is 1) @+ 1) is 2 do none",
            "when x is 1@)", "when (x @, 1) is 1", "when min @x",
            "when min (x @) is 1", "when min (x, 1 @, 2) is 1", "when min (x, 1 @is 1) is 1", "when min (@not x, 1) is 1",
            "when min@", "when min (x, 1) @do", "when (not x is 1 @, 1)", "when (x @not", "when (x @and 1) is 1 do none",
            "do x = (1@", "do x = (1 @; do none", "do x = (@)", "do x = min (1, 2@",
            "do x = min (1@", "do x = max @1", "do x = (x @is 1)", "do x = @not 1", "do x = 1 +@", "do x = 1 + @;",
            "do x = 1 + @+ 1", "do x = @- 1", "do x = 1 - @- 1",
        ]:
            self.bad_deed(rest)

    def test_too_many_cases(self):
        eight = "do none; " * 8
        self.bad_deed(eight + "do x = 1; @do none")
        self.bad_deed(eight + "do x = 1; @when")
        self.bad_deed(eight + "do x = 1;@")
        self.bad_deed(eight + "do x = 1; @1")
        parse_program(HEAD + "deed go: " + eight + "do none" + TAIL)

    def test_too_many_settings(self):
        three = "register a 0 to 1 from 0\nregister b 0 to 1 from 0\nregister c 0 to 1 from 0\ndeed go: "
        for rest in ["@d = 1", "@a = 1", "@none", "@1", "@"]:
            self.bad(three + "do a = 1, b = 1, c = 1," + rest)
        one = "register a 0 to 1 from 0\ndeed go: do a = 1, "
        self.bad(one + "@b = 1")
        self.bad(one + "@a = 1")

    def test_shows(self):
        for rest in [
            "@;", "@1", "@show", "@none", "@abcdefghi", "s @t", "s @; t", "s @when x is 1 t", "when x is 1@",
            "when x is 1 s@", "when x is 1 s @t", "when x is 1 s;@", "when x is 1 s; @1", "when x is 1 s; t @; u",
            "when x is 1 s; t\n@show", "when x is 1 s; t\n\n  @deed go: none", "when x is 1 @do none; t",
            "when x is 1 @1; t", "when @s; t", "when x is 1 @show; t", "when x is 1 @when; t", "s@, t",
            "when x is 1 s @or x is 2; t", "when x is 1 or @s; t",
        ]:
            self.bad_show(rest)
        self.bad(HEAD + "deed go: none\nshow @s")
        self.bad(HEAD + "deed go: none\nshow@")
        self.bad(HEAD + "deed go: none\nshow:@  ")
        self.bad(HEAD + "deed go: none\n@shows: s")
        for word in WORDS:
            if word != "when":
                self.bad_show(f"@{word}")

    def test_too_many_shows(self):
        nine = "when x is 1 s; " * 9
        self.bad_show(nine + "@t")
        self.bad_show(nine + "@when x is 2 t; u")
        self.bad_show(nine.rstrip() + "@")
        self.bad_show(nine[:-2] + "@")
        self.bad_show(nine[:-2] + " @t")

    def test_brackets_within_twelve_others(self):
        for shut in ["(" * 12 + "1" + ")" * 12, "(" * 12 + "1" + ")" * 12 + " - " + "(" * 12 + "x" + ")" * 12]:
            parse_program(HEAD + f"deed go: do x = {shut}" + TAIL)
            parse_program(HEAD + f"deed go: when {shut} is 1 do none" + TAIL)
        parse_program(HEAD + "deed go: when " + "(" * 12 + "x is 1" + ")" * 12 + " and (x is 1) do none" + TAIL)
        parse_program(HEAD + "deed go: do x = min (" + "(" * 11 + "1" + ")" * 11 + ", (1))" + TAIL)
        self.bad_deed("do x = " + "(" * 12 + "@(1" + ")" * 13)
        self.bad_deed("do x = " + "(" * 12 + "@((((")
        self.bad_deed("when " + "(" * 12 + "@(x is 1" + ")" * 13 + " do none")
        self.bad_deed("when " + "(" * 12 + "@(x" + ")" * 13 + " is 1 do none")
        self.bad_deed("when " + "(" * 6 + "x is " + "(" * 6 + "@(1" + ")" * 13 + " do none")
        self.bad_deed("do x = " + "(" * 12 + "min @(1, 2" + ")" * 13)
        self.bad_deed("do x = min (" + "(" * 11 + "@(1" + ")" * 12 + ", 1)")
        self.bad_deed("do x = 1; when " + "not (" * 12 + "not @(")
        self.bad_deed("do x = (1) + ((1)) + " + "(" * 12 + "@(1" + ")" * 13)
        self.bad_deed("when (x is 1) and min ((1), 2) is " + "(" * 12 + "@(1")

    def test_too_many_parts(self):
        for many in [1, 2, 6]:
            text, term = sum_of(many)
            program = parse_program(HEAD + f"deed go: do x = {text}" + TAIL)
            self.assertEqual(program[1][0][1][0][1][0][1], term)
        self.bad_deed("do x = @" + sum_of(7)[0])
        self.bad_deed("do x = @(" + sum_of(7)[0] + ")")
        self.bad_deed("do x = @" + sum_of(7)[0] + " z")
        self.bad_deed("do x = @" + sum_of(7)[0] + ") - 1")
        self.bad_deed("do x = @(((" + sum_of(7)[0] + "))); do none")
        self.bad_deed("do y = 1, x = @" + sum_of(5000)[0])
        self.bad_deed("do x = " + sum_of(40)[0] + " + @;")
        self.bad_deed("do x = " + sum_of(40)[0] + " +@")
        self.bad_deed("do x = " + sum_of(40)[0] + " + @z")
        self.bad_deed("do x = (" + sum_of(40)[0] + "@;")
        self.bad_deed("do x = " + sum_of(40)[0] + " @!")
        self.bad_deed("do x = " + sum_of(7)[0] + "; do x = @!")
        self.bad_deed("do x = @" + sum_of(7)[0] + "\n!")

    def test_parts_without_too_many_levels(self):
        four = "(x + x) - (x + x)"
        sixteen = f"max (max ({four}, {four}), max ({four}, {four}))"
        parse_program(HEAD + f"deed go: do x = max (max ({four}, {four}), max ({four}, x))" + TAIL)
        self.bad_deed(f"do x = @{sixteen}")
        self.bad_deed(f"do x = @{sixteen} = 1")
        self.bad_deed(f"when @{sixteen} is 1 do none")

    def test_brackets_count_nothing(self):
        text = "((x) + ((x)) + (((x))) + ((((x)))) + x + (x))"
        self.assertEqual(parse_program(HEAD + f"deed go: do x = {text}" + TAIL)[1][0][1][0][1][0][1], sum_of(6)[1])

    def test_too_large_conditions(self):
        check = "x is 1"
        parse_program(HEAD + "deed go: when " + " and ".join([check] * 5) + " do none" + TAIL)
        self.bad_deed("when @" + " and ".join([check] * 6) + " do none")
        self.bad_deed("when @" + " or ".join([check] * 6) + " none")
        self.bad_deed("when @(" + " or ".join([check] * 6) + ") do z = 1")
        self.bad_deed("when " + " or ".join([check] * 6) + " or @do none")
        parse_program(HEAD + "deed go: when " + "not " * 4 + check + " do none" + TAIL)
        self.bad_deed("when @" + "not " * 5 + check + " do none")
        self.bad_deed("when @" + "not " * 3000 + check + " do none")
        self.bad_deed("when " + "not " * 3000 + "x @do none")
        parse_program(HEAD + f"deed go: when {sum_of(5)[0]} is 1 do none" + TAIL)
        self.bad_deed(f"when @{sum_of(6)[0]} is 1 do none")
        self.bad_deed(f"when @x is {sum_of(6)[0]} do none")
        self.bad_deed(f"when @((x) is {sum_of(6)[0]}) do none")
        self.bad_deed(f"when {sum_of(6)[0]} @do none")
        self.bad_show("when @" + " and ".join([check] * 6) + " s; t")
        self.bad_show("when @" + " and ".join([check] * 6) + " 1; t")
        self.bad_show("when x is 1 s; when @" + " and ".join([check] * 6) + " s")
        self.bad_show("when " + " and ".join([check] * 6) + " and @s; t")

    def check_condition(self, tokens):
        """Holds what is told of a condition's tokens against all readings; whether it is one."""
        furthest = Furthest(tokens)
        line = "deed go: when " + " ".join(tokens)
        if len(tokens) in furthest.condition(0):
            parse_program(HEAD + line + " do none" + TAIL)
            return True
        ahead = tokens[:furthest.far]
        column = len("deed go: when " + "".join(token + " " for token in ahead)) + 1
        if len(ahead) == len(tokens):
            column -= 1
        refused(self, BadText, (3, column), parse_program, HEAD + line + TAIL)
        return False

    def test_conditions_of_any_tokens(self):
        pick = random.Random(7)
        words = ["x", "1", "(", "(", ")", ")", "is", "below", "not", "and", "or", "+", "min", ",", "is", "x"]
        for _ in range(3000):
            self.check_condition([pick.choice(words) for _ in range(pick.randint(1, 11))])

    def test_conditions_with_a_token_changed(self):
        pick = random.Random(8)
        words = ["x", "1", "(", ")", "is", "below", "not", "and", "or", "+", "-", "min", ","]
        right = 0
        for _ in range(4000):
            text = loose_condition(pick, made_condition(pick, ["x", 1], 4))
            tokens = re.findall("[a-z]+|[0-9]+|[^ ]", re.sub("[0-9]+", "1", text.replace("max", "min")))
            if len(tokens) <= 20:
                self.assertTrue(self.check_condition(tokens))
                at = pick.randrange(len(tokens))
                change = pick.choice([[pick.choice(words)], [], [pick.choice(words), tokens[at]]])
                right += self.check_condition(tokens[:at] + change + tokens[at + 1:])
        self.assertGreater(right, 30)

    def test_changes(self):
        carry, play, see = "carry: none\n", "play set: up\nplay clear: none\n", "see dark as dark\nsee dim as dark\n"
        last = "see bright as dark"
        for marked in [
            "@play", "@carr", "@1", "carry@", "carry @none", "carry:@", "carry: none @;", "carry: none @do",
            "carry: do @on = 1", "carry: do level = @level", "carry: when @level is 1 do none", "carry: do level = 1 +@; do",
            "carry: do level = on, @level = 1", "carry: do none;@", "carry: " + "do none; " * 9 + "@do none", "carry: @on",
            carry + "@see", "carry: none\n@carry: none", carry + "@deed set", carry + "play@", carry + "play @clear: none",
            carry + "play @up: none", carry + "play @1", carry + "play set@", carry + "play set @none", carry + "play set:@",
            carry + "play set: @set", carry + "play set: none @up", carry + "play set: up @none", carry + "play set: @1",
            carry + "play set: up @, up", carry + "play set: up down @dark", carry + "play set: @see",
            carry + "play set: " + "up " * 16 + "@up", carry + "play set: " + "up " * 16 + "@,",
            carry + "play set: " + "up " * 16 + "@nosuch", carry + "play set: up\nplay @set: up",
            carry + "play set: up\n@see dark as dark", carry + play + "@play", carry + play + "@play set: up",
            carry + play + "see@", carry + play + "see @dim as dark", carry + play + "see @nosuch", carry + play + "see dark@",
            carry + play + "see dark @dark", carry + play + "see dark as@", carry + play + "see dark as @dim",
            carry + play + "see dark as @1", carry + play + "see dark as dark @bright", carry + play + see + "@play",
            carry + play + see + "see @dark as dark", carry + play + see + last + "\n@see", carry + play + see + last + " @;",
            carry + play + see + last + "\n\n@1", "carry: none @!", "carry: @010", "carry: do @on = 1 + 1\n!",
            "carry: do level = @" + sum_of(7, "on")[0], "carry: when @" + sum_of(6, "on")[0] + " is 1 do none",
        ]:
            self.bad_change(marked)
        for text, spot in [
            ("", (2, 1)), (carry, (3, 1)), ("carry: none", (2, 1)), (carry + "play set: up", (3, 1)),
            (carry + play, (5, 1)), (carry + play + see, (7, 1)), (carry + play + see + "\n \n", (9, 1)),
        ]:
            refused(self, BadText, spot, parse_change, SWITCH, LAMP, text)
        parse_change(SWITCH, LAMP, carry + "play set: " + "up " * 16 + "\nplay clear: none\n" + see + last)

    def test_programs_come_ahead_of_the_text(self):
        for value in any_values() + not_programs()[:20]:
            refused(self, BadProgram, value, parse_change, value, None, None)
            refused(self, BadProgram, value, parse_change, SWITCH, value, "!")
            refused(self, BadProgram, value, parse_change, value, LAMP, "")

    def test_names_of_the_other_program(self):
        first = ((("x", 1, 0),), (("go", ()),), ((None, "s"),))
        second = ((("x", 1, 0), ("y", 1, 0)), (("go", ()), ("hop", ())), ((("is", "y", 1), "s"), (("is", 1, 1), "t"), (None, "s")))
        text = "carry: when x is 1 do y = x, x = 1\nplay go: hop go\nsee s as s\nsee t as s"
        change = (((("is", "x", 1), (("y", "x"), ("x", 1))),), (("go", ("hop", "go")),), (("s", "s"), ("t", "s")))
        self.assertEqual(parse_change(first, second, text), change)
        self.bad_change("carry: when @y is 1 do none", first, second)
        self.bad_change("carry: do x = 1, y = 1, @x = 1", first, second)
        self.bad_change("carry: do @y = 1", second, first)
        self.bad_change(text.replace("see t as s", "see t as @t"), first, second)
        self.bad_change(text.replace("see t", "see @s"), first, second)


if __name__ == "__main__":
    unittest.main()
