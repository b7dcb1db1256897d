import random
import unittest

from lateeditions.books import Book
from lateeditions.changetexts import carried, compiled_book, is_change, led_directly
from lateeditions.compiling import compiled
from lateeditions.errors import BadBook, BadChange, BadEye, BadInput, BadProgram, BadValues, TooMany
from lateeditions.machines import led
from lateeditions.programs import all_values, first_values, is_program, is_values, played, shown
from support import (
    LAMP, SWITCH, TOLAMP, any_values, deep, full, lamp_book, made_program, made_told_change, not_programs,
    plain_values, refused, rows_from, shown_first, variants,
)


def counter(name, top, begin, deed, shows=((None, "s"),)):
    """A program that counts up by one."""
    return (((name, top, begin),), ((deed, ((None, ((name, ("+", name, 1)),)),)),), shows)


def with_case(condition, *settings):
    return (((condition, settings),),) + TOLAMP[1:]


def number_of(term, numbers):
    if isinstance(term, tuple):
        one, other = [number_of(part, numbers) for part in term[1:]]
        return {"+": one + other, "-": one - other, "min": min(one, other), "max": max(one, other)}[term[0]]
    return numbers.get(term, term)


def does_hold(condition, numbers):
    if condition is None:
        return True
    if condition[0] in ("is", "below"):
        one, other = [number_of(part, numbers) for part in condition[1:]]
        return one == other if condition[0] == "is" else one < other
    parts = [does_hold(part, numbers) for part in condition[1:]]
    return {"not": not parts[0], "and": all(parts), "or": any(parts)}[condition[0]]


def plain_carried(first, second, change, values):
    numbers = dict(zip([row[0] for row in first[0]], values))
    worths = {name: begin for name, _, begin in second[0]}
    for condition, settings in change[0]:
        if does_hold(condition, numbers):
            for name, term in settings:
                top = [row[1] for row in second[0] if row[0] == name][0]
                worths[name] = min(max(number_of(term, numbers), 0), top)
            break
    return tuple(worths.values())


def is_plain_change(first, second, value):
    """Whether a value is a program of a change, by trying its cases as cases of programs."""
    if value.__class__ is not tuple or len(value) != 3:
        return False
    cases, rows, eyes = value
    elder = [row[0] for row in first[0]]
    newer = [row[0] for row in second[0]]
    # The cases are those of a program that has the elder registers, but for the names that are set.
    if cases.__class__ is not tuple or not all(one.__class__ is tuple and len(one) == 2 for one in cases):
        return False
    for _, settings in cases:
        if settings.__class__ is not tuple or not all(one.__class__ is tuple and len(one) == 2 for one in settings):
            return False
        names = [name for name, _ in settings]
        if any(name.__class__ is not str or name not in newer for name in names) or len(set(names)) < len(names):
            return False
    free = tuple((condition, tuple((elder[0], term) for _, term in settings[:1])) for condition, settings in cases)
    terms = tuple((None, ((elder[0], term),)) for _, settings in cases for _, term in settings)
    for some in [free] + [(one,) for one in terms]:
        if not is_program((first[0], (("go", some),), ((None, "s"),))):
            return False
    for told, names, others in [(rows, [deed for deed, _ in first[1]], None), (eyes, shown_first(second), shown_first(first))]:
        if told.__class__ is not tuple or len(told) != len(names):
            return False
        for pair, name in zip(told, names):
            if pair.__class__ is not tuple or len(pair) != 2 or pair[0].__class__ is not str or pair[0] != name:
                return False
            if others is not None and (pair[1].__class__ is not str or pair[1] not in others):
                return False
    deeds = [deed for deed, _ in second[1]]
    return all(
        row.__class__ is tuple and len(row) <= 16 and all(deed.__class__ is str and deed in deeds for deed in row)
        for _, row in rows
    )


class IsChangeTest(unittest.TestCase):
    def test_made_changes(self):
        for seed in range(100):
            first, second = made_program(seed), made_program(seed + 700)
            self.assertIs(is_change(first, second, made_told_change(seed, first, second)), True)

    def test_variants(self):
        right = 0
        programs = [(SWITCH, LAMP, TOLAMP)]
        for seed in range(12):
            first, second = made_program(seed), made_program(seed + 40)
            programs.append((first, second, made_told_change(seed, first, second)))
        for first, second, change in programs:
            seen = random.Random(1)
            for value in variants(change):
                if first is SWITCH or seen.random() < 0.1:
                    expected = is_plain_change(first, second, value)
                    self.assertIs(is_change(first, second, value), expected, value)
                    right += expected
        self.assertGreater(right, 20)

    def test_any_values(self):
        for value in any_values() + [SWITCH, LAMP, lamp_book(), [TOLAMP]]:
            self.assertIs(is_change(SWITCH, LAMP, value), False)
            for k in range(3):
                if value != () or k:
                    self.assertIs(is_change(SWITCH, LAMP, TOLAMP[:k] + (value,) + TOLAMP[k + 1:]), False)

    def test_cases_at_the_edges(self):
        none = ((), *TOLAMP[1:])
        self.assertIs(is_change(SWITCH, LAMP, none), True)
        self.assertIs(is_change(value=(((None, ()),) * 9, *TOLAMP[1:]), second=LAMP, first=SWITCH), True)
        self.assertIs(is_change(SWITCH, LAMP, (((None, ()),) * 10, *TOLAMP[1:])), False)
        for condition, settings, expected in [
            (None, (), True), (("is", "on", 1), (), True), (("is", "level", 1), (), False), (True, (), False),
            (None, (("level", "on"),), True), (None, (("level", "level"),), False), (None, (("on", 1),), False),
            (None, (("level", 99),), True), (None, (("level", 100),), False), (None, (("level", -1),), False),
            (None, (("level", True),), False), (None, (("level", 1), ("level", 1)), False),
            (deep(6, ("is", "on", 1), "and", ("is", 1, 1)), (), False),
            (deep(5, ("is", "on", 1), "or", ("is", 1, 1)), (), True),
            (None, (("level", deep(6, "on", "+", 1)),), True), (None, (("level", deep(7, "on", "+", 1)),), False),
            (None, (("level", full(4, "on", "-")),), True), (None, (("level", full(5, "on", "-")),), False),
        ]:
            self.assertIs(is_change(SWITCH, LAMP, with_case(condition, *settings)), expected, (condition, settings))

    def test_settings_at_the_edges(self):
        many = (tuple((name, 1, 0) for name in ("x", "y", "z")), (("up", ()),), ((None, "dark"),))
        rows = (("set", ()), ("clear", ("up",) * 16))
        for settings, expected in [
            ((), True), ((("z", 1), ("x", 0), ("y", "on")), True), ((("z", 1), ("x", 0), ("y", 1), ("x", 1)), False),
            ((("z", 1), ("x", 0), ("z", 1)), False), ((("on", 1),), False), ((("x", "z"),), False),
        ]:
            change = (((None, settings),), rows, (("dark", "dark"),))
            self.assertIs(is_change(SWITCH, many, change), expected)

    def test_rows(self):
        ups, downs = ("up",) * 16, ("down",) * 17
        for rows, expected in [
            ((("set", ups), ("clear", ())), True), ((("set", ups + ("up",)), ("clear", ())), False),
            ((("set", ()), ("clear", downs)), False), ((("clear", ()), ("set", ())), False), ((("set", ()),), False),
            ((("set", ()), ("set", ())), False), ((("set", ()), ("clear", ()), ("clear", ())), False),
            ((("set", ("set",)), ("clear", ())), False), ((("set", ["up"]), ("clear", ())), False),
            ((["set", ()], ("clear", ())), False), ([("set", ()), ("clear", ())], False),
            ((("set", "up"), ("clear", ())), False),
            ((("up", ()), ("down", ())), False), ((("set", (), ()), ("clear", ())), False), ((), False),
        ]:
            self.assertIs(is_change(SWITCH, LAMP, (TOLAMP[0], rows, TOLAMP[2])), expected, rows)

    def test_eyes(self):
        dark, dim, bright = TOLAMP[2]
        for eyes, expected in [
            ((dark, ("dim", "dark"), bright), True), ((dim, dark, bright), False), ((dark, dim), False), ((), False),
            ((dark, dim, bright, ("on", "dark")), False), ((dark, dim, bright, bright), False),
            ((dark, ("dim", "dim"), bright), False), ((dark, ("dim", None), bright), False), ((dark, dark, bright), False),
            ([dark, dim, bright], False), ((dark, ["dim", "dark"], bright), False), ((dark, ("dim",), bright), False),
        ]:
            self.assertIs(is_change(SWITCH, LAMP, TOLAMP[:2] + (eyes,)), expected, eyes)

    def test_names_are_those_of_the_shows(self):
        # A name that is shown at no values at all is asked for, and may be seen.
        newer = LAMP[:2] + (((("is", 1, 2), "never"), (("is", "level", 0), "dark"), (("is", 2, 1), "never"), (None, "on")),)
        eyes = (("never", "idle"), ("dark", "dark"), ("on", "idle"))
        elder = SWITCH[:2] + (((("is", 1, 2), "idle"), (None, "dark")),)
        self.assertIs(is_change(elder, newer, TOLAMP[:2] + (eyes,)), True)
        self.assertIs(is_change(elder, newer, TOLAMP[:2] + (eyes[1:],)), False)
        self.assertIs(is_change(elder, newer, TOLAMP[:2] + ((eyes[1], eyes[0], eyes[2]),)), False)

    def test_programs_come_first(self):
        for value in any_values() + not_programs()[:40]:
            refused(self, BadProgram, value, is_change, value, None, TOLAMP)
            refused(self, BadProgram, value, is_change, SWITCH, value, None)
            refused(self, BadProgram, value, is_change, value, LAMP, TOLAMP)


class CarriedTest(unittest.TestCase):
    def test_made_changes(self):
        for seed in range(120):
            first, second = made_program(seed), made_program(seed + 700)
            change = made_told_change(seed, first, second)
            for values in all_values(first):
                self.assertEqual(
                    carried(first, second, change, values), plain_carried(first, second, change, values),
                )

    def test_first_values_are_set(self):
        newer = ((("x", 8, 3), ("y", 5, 4)), (("up", ()),), ((None, "dark"),))

        def told(*cases):
            change = (cases, (("set", ()), ("clear", ())), (("dark", "dark"),))
            return [carried(SWITCH, newer, change, (0,)), carried(SWITCH, newer, change, (1,))]

        is_on = ("is", "on", 1)
        self.assertEqual(told(), [(3, 4), (3, 4)])
        self.assertEqual(told((is_on, (("y", 2),))), [(3, 4), (3, 2)])
        self.assertEqual(told((is_on, (("y", 2),)), (None, (("x", 7),))), [(7, 4), (3, 2)])
        self.assertEqual(told((None, ()), (None, (("x", 7),))), [(3, 4), (3, 4)])
        self.assertEqual(told((("is", "on", 2), (("x", 1),))), [(3, 4), (3, 4)])
        self.assertEqual(told((None, (("y", 6), ("x", ("-", "on", 2))))), [(0, 5), (0, 5)])
        self.assertEqual(told((None, (("y", 99), ("x", ("+", ("+", "on", "on"), 6))))), [(6, 5), (8, 5)])

    def test_terms_are_over_the_elder_values(self):
        first = ((("x", 6, 1), ("y", 6, 2)), (("go", ()),), ((None, "s"),))
        change = (((None, (("y", "x"), ("x", "y"))),), (("go", ()),), (("s", "s"),))
        self.assertEqual(carried(first, first, change, (3, 5)), (5, 3))

    def test_errors(self):
        for value in any_values():
            refused(self, BadProgram, value, carried, value, None, None, None)
            refused(self, BadProgram, value, carried, SWITCH, value, None, None)
            refused(self, BadChange, value, carried, SWITCH, LAMP, value, (1,))
            refused(self, BadChange, value, carried, SWITCH, LAMP, value, None)
            if not is_values(SWITCH, value):
                refused(self, BadValues, value, carried, SWITCH, LAMP, TOLAMP, value)
        for value in [(2,), [1], (True,), (0, 0), (-1,), 1, ("on",)]:
            refused(self, BadValues, value, carried, SWITCH, LAMP, TOLAMP, value)
        # Values of the newer program are none of the elder one.
        refused(self, BadValues, (2,), carried, SWITCH, LAMP, TOLAMP, (2,))
        turned = (TOLAMP[0], TOLAMP[1][::-1], TOLAMP[2])
        refused(self, BadChange, turned, carried, values=None, change=turned, second=LAMP, first=SWITCH)


def plain_book(programs, changes):
    """The values, edition by edition, or what is refused, by the words of the document."""
    worths = []
    for k, program in enumerate(programs):
        more = [plain_carried(programs[k - 1], program, changes[k - 1], one) for one in worths[-1]] if k else []
        values = plain_values(program, [first_values(program)] + more)
        if len(values) > 9:
            return (TooMany, 9)
        if k:
            elder = {shown(programs[k - 1], one) for one in worths[-1]}
            newer = {shown(program, one) for one in values}
            for name, other in changes[k - 1][2]:
                if name in newer and other not in elder:
                    return (BadEye, name)
        worths.append(values)
    return (None, worths)


def small_program(seed):
    """A program with few values, the same for each seed."""
    pick = random.Random(seed)
    top = pick.randint(1, 4)
    deeds = []
    for name in ["go", "hop", "run"][:pick.randint(1, 3)]:
        term = pick.choice([("+", "x", 1), ("-", "x", pick.randint(1, 2)), pick.randint(0, top), ("-", top, "x")])
        deeds.append((name, ((pick.choice([None, ("below", "x", 2)]), (("x", term),)),)))
    shows = tuple((("is", "x", k), pick.choice("pqr")) for k in range(top)) + ((None, pick.choice("pqr")),)
    return ((("x", top, pick.randint(0, top)),), tuple(deeds), shows)


def small_change(seed, first, second):
    pick = random.Random(seed)
    cases = tuple(
        (pick.choice([None, ("below", "x", 2), ("is", "x", 1)]), (("x", pick.choice(["x", 3, ("-", 4, "x")])),))
        for _ in range(pick.randint(0, 2))
    )
    rows = tuple(
        (deed, tuple(pick.choice(second[1])[0] for _ in range(pick.randint(0, 3)))) for deed, _ in first[1]
    )
    return (cases, rows, tuple((name, pick.choice(shown_first(first))) for name in shown_first(second)))


def small_told(seed, editions):
    programs = [small_program(seed + 50 * k) for k in range(editions)]
    return programs, [small_change(seed + k, *programs[k:k + 2]) for k in range(editions - 1)]


class CompiledBookTest(unittest.TestCase):
    def check(self, programs, changes):
        error, kept = plain_book(programs, changes)
        if error is not None:
            with self.assertRaises(error) as caught:
                compiled_book(programs, changes)
            self.assertEqual(list(vars(caught.exception).values()), [kept])
            return error
        book, worths = compiled_book(programs, changes)
        self.assertIsInstance(book, Book)
        self.assertEqual(worths, tuple(tuple(values) for values in kept))
        for k, program in enumerate(programs):
            desk, values = compiled(program, more=worths[k])
            self.assertEqual((book.desks[k], worths[k]), (desk, values))
        for k, change in enumerate(book.changes):
            self.check_change(change, programs[k:k + 2], changes[k], worths[k:k + 2])
        return None

    def check_change(self, change, programs, told, worths):
        first, second = change.first, change.second
        for standing, values in zip(first.standings, worths[0]):
            newer = plain_carried(*programs, told, values)
            self.assertEqual(change.carried(standing), second.standings[worths[1].index(newer)])
        for deed, row in told[1]:
            self.assertEqual(change.row(deed), list(row))
        for name, other in told[2]:
            if name in [second.sight(one) for one in second.standings]:
                self.assertEqual(change.eye(name), other)

    def test_made_programs(self):
        met = []
        for seed in range(120):
            met.append(self.check(*small_told(seed, 1 + seed % 3)))
            first, second = made_program(seed), made_program(seed + 40)
            self.check([first, second], [made_told_change(seed, first, second)])
        self.assertGreater(met.count(None), 60)
        self.assertGreater(met.count(BadEye), 10)

    def test_result(self):
        told = compiled_book(changes=(TOLAMP,), programs=(SWITCH, LAMP))
        self.assertIsInstance(told, tuple)
        self.assertEqual(told[0], compiled_book([SWITCH, LAMP], [TOLAMP])[0])
        self.assertEqual(told[1], (((0,), (1,)), ((0,), (1,), (2,))))
        self.assertEqual(compiled_book([LAMP], ()), (Book([compiled(LAMP)[0]], []), (((0,), (1,), (2,)),)))

    def test_sequence_of_further_values(self):
        first = counter("x", 3, 0, "up")
        second = counter("y", 8, 6, "up")
        change = (((None, (("y", ("-", 5, ("+", "x", "x"))),)),), (("up", ("up",)),), (("s", "s"),))
        book, worths = compiled_book([first, second], [change])
        self.assertEqual([values[0] for values in worths[1]], [6, 7, 8, 5, 3, 4, 1, 2, 0])
        self.assertEqual([book.changes[0].carried(one) for one in "abcd"], ["d", "e", "g", "i"])

    def test_values_that_came_by_a_carry_are_carried_on(self):
        still = [((("x", 8, begin),), (("go", ()),), ((None, "s"),)) for begin in (1, 2, 3)]
        move = (((None, (("x", ("+", "x", 4)),)),), (("go", ()),), (("s", "s"),))
        self.assertEqual(compiled_book(still, [move, move])[1], (((1,),), ((2,), (5,)), ((3,), (6,), (8,))))

    def test_too_many(self):
        long = counter("x", 8, 0, "up")
        two = ((("x", 8, 0), ("y", 1, 0)), (("up", ((None, (("x", ("+", "x", 1)),)),)),), ((None, "s"),))
        change = ((), (("up", ("up",)),), (("s", "s"),))
        self.assertEqual(len(compiled_book([long, two], [change])[1][1]), 9)
        lifted = (((("is", "x", 8), (("y", 1), ("x", 8))),), *change[1:])
        refused(self, TooMany, 9, compiled_book, [long, two], [lifted])
        wide = (two[0], two[1] + (("turn", ((None, (("y", 1),)),)),), two[2])
        refused(self, TooMany, 9, compiled_book, [wide], [])
        refused(self, TooMany, 9, compiled_book, [long, wide], [change])
        refused(self, TooMany, 9, compiled_book, [wide, long], [((), (("up", ()), ("turn", ())), (("s", "s"),))])

    def test_eyes(self):
        elder = SWITCH[:2] + (((("is", "on", 2), "idle"), (("is", "on", 1), "bright"), (None, "dark")),)
        newer = LAMP[:2] + (((("is", 1, 2), "never"), (("is", "level", 0), "dark"), (("is", "level", 1), "dim"), (None, "on")),)

        def told(*eyes):
            return [elder, newer], [TOLAMP[:2] + (tuple(zip(["never", "dark", "dim", "on"], eyes)),)]

        # What is never shown, or is seen by what is never shown, is left out.
        book = compiled_book(*told("idle", "dark", "dark", "bright"))[0]
        self.assertEqual([book.changes[0].eye(name) for name in ("dark", "dim", "on")], ["dark", "dark", "bright"])
        refused(self, BadEye, "dark", compiled_book, *told("dark", "idle", "dark", "idle"))
        refused(self, BadEye, "dim", compiled_book, *told("idle", "dark", "idle", "idle"))
        refused(self, BadEye, "on", compiled_book, *told("idle", "dark", "bright", "idle"))

    def test_sights_that_come_by_a_carry_count(self):
        elder = ((("x", 1, 0),), (("go", ()),), ((("is", "x", 1), "one"), (None, "nonex")))
        newer = ((("x", 1, 0),), (("go", ()),), ((("is", "x", 1), "one"), (None, "nonex")))
        lift = (((None, (("x", 1),)),), (("go", ()),), (("one", "nonex"), ("nonex", "nonex")))
        same = (((None, (("x", "x"),)),), (("go", ()),), (("one", "one"), ("nonex", "nonex")))
        self.assertEqual(compiled_book([elder, newer, newer], [lift, same])[1], (((0,),), ((0,), (1,)), ((0,), (1,))))
        with self.assertRaises(BadEye) as caught:
            compiled_book([elder, newer, newer], [(((None, ()),), *lift[1:]), (lift[0], *same[1:])])
        self.assertEqual(caught.exception.value, "one")

    def test_edition_by_edition(self):
        long = counter("x", 8, 0, "up")
        two = ((("x", 8, 0), ("y", 1, 0)), (("up", ((None, (("x", ("+", "x", 1)),)),)),), ((None, "s"),))
        odd = long[:2] + (((("is", 1, 2), "idle"), (None, "s")),)
        change = ((), (("up", ("up",)),), (("s", "s"),))
        blind = ((), (("up", ("up",)),), (("s", "idle"),))
        lifted = ((("is", "x", 8), (("y", 1), ("x", 8))),)
        # The eyes of edition 1 come ahead of the many standings of edition 2.
        with self.assertRaises(BadEye):
            compiled_book([odd, long, two], [blind, (lifted, *change[1:])])
        refused(self, TooMany, 9, compiled_book, [long, long, two], [change, (lifted, *change[1:])])
        refused(self, TooMany, 9, compiled_book, [odd, two], [(lifted, *blind[1:])])
        refused(self, TooMany, 9, compiled_book, [odd, two, long], [(lifted, *blind[1:]), change])
        idle = ((), (("up", ("up",)),), (("idle", "s"), ("s", "idle")))
        with self.assertRaises(BadEye):
            compiled_book([long, odd, long], [((), change[1], (("idle", "s"), ("s", "s"))), blind])
        refused(self, BadChange, idle, compiled_book, [long, odd], [idle])

    def test_wrong_programs(self):
        wrong = any_values() + [
            [], (), LAMP, [LAMP] * 4, (LAMP,) * 4, [LAMP, None], (SWITCH, list(LAMP)), {0: LAMP}, [[LAMP]], [compiled(LAMP)[0]],
        ]
        for call in (compiled_book, lambda programs, changes: led_directly(programs, changes, None)):
            for value in wrong:
                refused(self, BadBook, value, call, value, [])
                refused(self, BadBook, value, call, value, None)
            for value in not_programs()[:60]:
                programs = [LAMP, value, None]
                refused(self, BadBook, programs, call, programs, None)

    def test_wrong_changes(self):
        for call in (compiled_book, lambda programs, changes: led_directly(programs, changes, None)):
            for value in any_values():
                if not isinstance(value, (list, tuple)) or len(value) != 1:
                    refused(self, BadBook, value, call, [SWITCH, LAMP], value)
                else:
                    refused(self, BadChange, value[0], call, [SWITCH, LAMP], value)
                if value not in ([], ()):
                    refused(self, BadBook, value, call, [LAMP], value)
                refused(self, BadChange, value, call, [SWITCH, LAMP], [value])
                refused(self, BadChange, value, call, [SWITCH, LAMP, SWITCH], (TOLAMP, value))
                refused(self, BadChange, value, call, [SWITCH, LAMP, SWITCH], [value, None])
            for value in [[TOLAMP, TOLAMP], (), {0: TOLAMP}, TOLAMP]:
                refused(self, BadBook, value, call, (SWITCH, LAMP), value)
            refused(self, BadChange, TOLAMP, call, [LAMP, SWITCH], [TOLAMP])

    def test_changes_come_ahead_of_many_values(self):
        settings = (("x", ("+", "x", 1)), ("y", ("-", 1, "y")))
        wide = ((("x", 8, 0), ("y", 1, 0)), (("up", ((None, settings),)),), ((None, "s"),))
        refused(self, TooMany, 9, compiled_book, [wide], [])
        refused(self, BadChange, None, compiled_book, [wide, wide], [None])
        refused(self, BadBook, None, compiled_book, [wide, wide], None)

    def test_arguments_stay(self):
        programs, changes = [SWITCH, LAMP], [TOLAMP]
        compiled_book(programs, changes)
        led_directly(programs, changes, ["carry"])
        self.assertEqual((programs, changes), ([SWITCH, LAMP], [TOLAMP]))


class LedDirectlyTest(unittest.TestCase):
    def test_as_the_compiled_book_is_led(self):
        held = 0
        for seed in range(60):
            programs, changes = small_told(seed, 1 + seed % 3)
            if plain_book(programs, changes)[0] is None:
                book, worths = compiled_book(programs, changes)
                for row in rows_from(book, 0, 3):
                    edition, standing = led(book, book.start, row)
                    values = worths[edition][book.desks[edition].standings.index(standing)]
                    self.assertEqual(led_directly(programs, changes, row), (edition, values))
                held += 1
        self.assertGreater(held, 30)

    def test_programs_with_too_many_values(self):
        wide = ((("x", 8, 0), ("y", 5, 2)), (("up", ((None, (("x", ("+", "x", 1)), ("y", ("-", 5, "y")))),)),), ((None, "s"),))
        change = (((None, (("x", "y"), ("y", "x"))),), (("up", ("up", "up")),), (("s", "s"),))
        told = led_directly([wide, wide], [change], [(0, "up")] * 3 + ["carry", (0, "up"), (1, "up")])
        self.assertEqual(told, (1, played(wide, (3, 3), ["up"] * 3)))

    def test_eyes_that_no_book_has(self):
        odd = SWITCH[:2] + (((("is", 1, 2), "idle"), (None, "dark")),)
        blind = TOLAMP[:2] + ((("dark", "idle"), ("dim", "dark"), ("bright", "dark")),)
        with self.assertRaises(BadEye):
            compiled_book([odd, LAMP], [blind])
        self.assertEqual(led_directly([odd, LAMP], [blind], [(0, "set"), "carry"]), (1, (2,)))

    def test_elder_deeds_by_rows_of_rows(self):
        programs = [counter(name, 8, 0, name * 2) for name in "abc"]
        for many, more in [(0, 3), (2, 0), (1, 1), (2, 3), (3, 2), (16, 16)]:
            changes = [
                ((), (("aa", ("bb",) * many),), (("s", "s"),)), ((), (("bb", ("cc",) * more),), (("s", "s"),)),
            ]
            row = [(0, "aa"), "carry", (0, "aa"), "carry", (0, "aa")]
            self.assertEqual(led_directly(programs, changes, row[:1]), (0, (1,)))
            self.assertEqual(led_directly(programs, changes, row[:3]), (1, (min(many, 8),)))
            self.assertEqual(led_directly(programs, changes, row), (2, (min(many * more, 8),)))
            self.assertEqual(led_directly(programs, changes, row[1::2] + [(1, "bb"), (2, "cc")]), (2, (min(more + 1, 8),)))

    def test_nothing_leads_nowhere(self):
        self.assertEqual(led_directly(row=[], changes=(), programs=[LAMP]), (0, (0,)))
        row = ["carry"]
        self.assertEqual(led_directly((SWITCH, LAMP), (TOLAMP,), row), (1, (0,)))
        self.assertEqual(row, ["carry"])

    def test_wrong_inputs(self):
        wrong = any_values() + [
            (0, "up"), (1, "up"), (True, "set"), (False, "set"), (0, "set", 0), [0, "set"], "set", (0, None), ("0", "set"),
            (-1, "up"), (2, "up"), (-2, "set"), ("carry",), "Carry", (0, "carry"), (0, ["set"]),
        ]
        for value in wrong:
            refused(self, BadInput, 0, led_directly, [SWITCH, LAMP], [TOLAMP], [value])
            refused(self, BadInput, 2, led_directly, [SWITCH, LAMP], [TOLAMP], [(0, "set"), (0, "set"), value, value])
        for value in any_values() + ["carry", (1, "set"), (0, "up"), (True, "up"), (2, "up"), (-1, "up")]:
            refused(self, BadInput, 1, led_directly, [SWITCH, LAMP], [TOLAMP], ["carry", value])
        refused(self, BadInput, 0, led_directly, [SWITCH], [], ["carry"])
        for value in any_values():
            if not isinstance(value, list):
                refused(self, BadInput, 0, led_directly, [SWITCH, LAMP], [TOLAMP], value)

    def test_which_comes_first(self):
        refused(self, BadChange, None, led_directly, [SWITCH, LAMP], [None], [None])
        refused(self, BadBook, None, led_directly, None, None, None)


if __name__ == "__main__":
    unittest.main()
