"""What several tests need: values of all kinds, desks made by number, plain searches."""

import itertools
import os
import random
import sys

from lateeditions.books import Book, Change
from lateeditions.desks import Desk
from lateeditions.errors import BadFence, BadRow
from lateeditions.plans import Plan
from lateeditions.programs import done


KEPT = {}


def kept(call):
    """The call of a book and of what else can be a key; what it told once of this very book is told again."""
    def told(book, *rest):
        key = (call.__name__, id(book), *rest)
        if key not in KEPT:
            KEPT[key] = (book, call(book, *rest))
        return KEPT[key][1]
    return told


def lines_run(call, *args):
    """How many lines of the package a call runs, those that are run again counted again."""
    lines = []

    def count(frame, event, _):
        if f"{os.sep}lateeditions{os.sep}" not in frame.f_code.co_filename:
            return None
        if event == "line":
            lines.append(frame.f_lineno)
        return count

    before = sys.gettrace()
    sys.settrace(count)
    try:
        call(*args)
    finally:
        sys.settrace(before)
    return len(lines)


def lamp():
    return Desk(
        ["off", "on"],
        {"press": {"off": "on", "on": "off"}, "cut": {"off": "off", "on": "off"}},
        {"off": "dark", "on": "light"},
    )


def three():
    return Desk(
        ["off", "on", "lit"],
        {"press": {"off": "on", "on": "off", "lit": "off"}},
        {"off": "dark", "on": "light", "lit": "light"},
    )


def nested(make, depth):
    value = make([])
    for _ in range(depth - 1):
        value = make([value])
    return value


def any_values():
    """Values of all kinds, new each time; none of them is a name of a desk in the tests."""
    return [
        None, True, False, 0, 1, -1, 7, 10 ** 59, "", " ", "\n", "A", "a b", "nosuch", "longername",
        (), [], {}, (True,), (0,), [0], ["nosuch"], ("nosuch",), {"nosuch": "nosuch"}, {1: 2},
        {True: None}, {(): ()}, {None: []}, [[]], ([],), [()], [None], [["nosuch"]],
        nested(tuple, 30), nested(list, 30), {"a": nested(list, 29)}, lamp(), [lamp()], (lamp(),),
        BadRow(3), [BadRow(3)], {"a": lamp()}, "x" * 1000, ["x"] * 1000, ((1, 2), [3, {"a": True}]),
    ]


def letters(count):
    return ["abcdefghijklmnop"[k] for k in range(count)]


def made_desk(seed, many, deeds, sights):
    """A desk with so many standings, deeds and (at most) sights, the same for each seed."""
    pick = random.Random(seed)
    names = letters(many)
    return Desk(
        names,
        {deed: {one: pick.choice(names) for one in names} for deed in ["go", "hop", "run", "sit"][:deeds]},
        {one: pick.choice(["red", "blue", "green"][:sights]) for one in names},
    )


def rows_up_to(labels, most):
    """All rows of labels with at most so many, by their lengths."""
    for many in range(most + 1):
        for row in itertools.product(labels, repeat=many):
            yield list(row)


def plain_search(labels, most, found):
    """A shortest row of at most so many labels for which found(row) holds, or None."""
    for row in rows_up_to(labels, most):
        if found(row):
            return row
    return None


def check_shortest(test, row, labels, most, found):
    """Holds a row that was told (or None) against a plain search of all rows."""
    plain = plain_search(labels, most, found)
    if plain is None:
        test.assertIsNone(row)
    else:
        test.assertIsInstance(row, list)
        test.assertTrue(found(row))
        test.assertEqual(len(row), len(plain))


def refused(test, error, kept, call, *told, **more):
    """Calls, and holds that the error is raised and keeps this very value (or an equal number)."""
    with test.assertRaises(error) as caught:
        call(*told, **more)
    test.assertIs(caught.exception.__class__, error)
    (attribute,) = vars(caught.exception).values()
    if isinstance(kept, (int, tuple)) and not isinstance(kept, bool):
        test.assertEqual(attribute, kept)
        test.assertIs(attribute.__class__, kept.__class__)
    else:
        test.assertIs(attribute, kept)


WORDS = [
    "register", "deed", "show", "to", "from", "when", "do", "is", "below", "not", "and", "or", "min", "max",
    "carry", "play", "see", "as", "none",
]
UPS = ("up", ((None, (("level", ("+", "level", 1)),)),))
DOWNS = ("down", ((("is", "level", 0), ()), (None, (("level", ("-", "level", 1)),))))
LAMP = (
    (("level", 2, 0),), (UPS, DOWNS),
    ((("is", "level", 0), "dark"), (("is", "level", 1), "dim"), (None, "bright")),
)
SWITCH = (
    (("on", 1, 0),),
    (("set", ((None, (("on", 1),)),)), ("clear", ((None, (("on", 0),)),))),
    ((("is", "on", 1), "bright"), (None, "dark")),
)
TOLAMP = (
    ((("is", "on", 1), (("level", 2),)),),
    (("set", ("up", "up")), ("clear", ("down", "down"))),
    (("dark", "dark"), ("dim", "bright"), ("bright", "bright")),
)


def sum_of(many, word="x"):
    """A sum of so many parts, as a text and as a term (from left to right)."""
    term = word
    for _ in range(many - 1):
        term = ("+", term, word)
    return " + ".join([word] * many), term


def full(levels, leaf, sign):
    """A tree of so many levels with two parts below each but the last."""
    return leaf if levels == 1 else (sign, full(levels - 1, leaf, sign), full(levels - 1, leaf, sign))


def deep(levels, leaf, sign, other):
    """A tree of so many levels that grows on one side."""
    return leaf if levels == 1 else (sign, deep(levels - 1, leaf, sign, other), other)


def parts_of(tree):
    if not isinstance(tree, tuple):
        return 1
    return 1 + sum(parts_of(one) for one in tree[1:])


def made_term(pick, names, levels):
    if levels == 1 or pick.random() < 0.4:
        return pick.choice(list(names) + [0, 1, 2, 9, 99])
    sign = pick.choice(["+", "-", "min", "max"])
    return (sign, made_term(pick, names, levels - 1), made_term(pick, names, levels - 1))


def made_condition(pick, names, levels):
    if levels <= 2 or pick.random() < 0.4:
        return (pick.choice(["is", "below"]), made_term(pick, names, levels - 1), made_term(pick, names, levels - 1))
    sign = pick.choice(["not", "and", "or"])
    if sign == "not":
        return (sign, made_condition(pick, names, levels - 1))
    return (sign, made_condition(pick, names, levels - 1), made_condition(pick, names, levels - 1))


def fitting(make, pick, names):
    """A term or condition of at most 6 levels and 30 parts."""
    while True:
        tree = make(pick, names, pick.randint(2, 6))
        if parts_of(tree) <= 30:
            return tree


def made_cases(pick, names, settable):
    cases = []
    for _ in range(pick.choice([0, 1, 2, 3, 9])):
        condition = None if pick.random() < 0.3 else fitting(made_condition, pick, names)
        some = pick.sample(list(settable), pick.randint(0, len(settable)))
        cases.append((condition, tuple((name, fitting(made_term, pick, names)) for name in some)))
    return tuple(cases)


def made_program(seed):
    """A program of any form, the same for each seed."""
    pick = random.Random(seed)
    names = pick.sample(["x", "y", "level", "registry"], pick.randint(1, 3))
    registers, room = [], 60
    for name in names:
        top = pick.randint(0, min(8, room - 1))
        room //= top + 1
        registers.append((name, top, pick.randint(0, top)))
    deeds = [(name, made_cases(pick, names, names)) for name in ["go", "x", "hop", "run"][:pick.randint(1, 4)]]
    shows = [(fitting(made_condition, pick, names), pick.choice("abc")) for _ in range(pick.randint(0, 8))]
    return (tuple(registers), tuple(deeds), tuple(shows) + ((None, pick.choice("abx")),))


def not_programs():
    """Values that are no programs, each a little beside one."""
    registers, deeds, shows = LAMP
    wrong = [
        list(LAMP), LAMP[:2], LAMP + ((),), ([("level", 2, 0)], deeds, shows), (registers, list(deeds), shows),
        (registers, deeds, list(shows)), ((), deeds, shows), (registers, (), shows), (registers, deeds, ()),
        ((), (("up", ()),), ((None, "s"),)),
    ]
    for row in [
        ("level", 2), ("level", 2, 0, 0), ["level", 2, 0], ("level", 9, 0), ("level", -1, 0), ("level", 2, 3),
        ("level", 2, -1), ("level", True, 0), ("level", 2, False), ("level", "2", 0), ("level", None, None),
    ]:
        wrong.append(((row,), deeds, shows))
    for registers_too_many in [
        (("level", 2, 0), ("level", 1, 0)), (("level", 8, 0), ("other", 6, 0)),
        tuple((name, 0, 0) for name in ("level", "b", "c", "d")),
        (("level", 2, 0), ("b", 2, 0), ("c", 6, 0)),
    ]:
        wrong.append((registers_too_many, deeds, shows))
    for name in WORDS + ["", "Level", "abcdefghi", "a b", "x1", None, 1, ("a",)]:
        wrong.append((registers + ((name, 1, 0),), deeds, shows))
        wrong.append((registers, deeds + ((name, ()),), shows))
        wrong.append((registers, deeds, ((None, name),)))
    for cases in [
        [], None, ((None, ()),) * 10, ((None,),), (None,), ((None, (), ()),), ((None, []),), ([None, ()],),
        ((None, (("level", 1), ("level", 2))),), ((None, (("other", 1),)),), ((None, (("level",),)),),
        ((None, (["level", 1],)),), ((None, (("level", 1, 1),)),), ((None, ("level", 1)),), ((True, ()),),
        ((None, (("level", 1),) * 4),), ((None, None),), ((None, ((None, 1),)),),
    ]:
        wrong.append((registers, (("up", cases),), shows))
    wrong.append((registers, (("up", ()), ("up", ())), shows))
    wrong.append((registers, tuple((name, ()) for name in "abcde"), shows))
    for row in [("up",), ("up", (), ()), ["up", ()], "up", None]:
        wrong.append((registers, (row,), shows))
    for told in [
        ((("is", "level", 0), "dark"),), ((None, "dark"), (None, "dim")), ((None, "dark"), (("is", 1, 1), "dim")),
        ((None,),), ((None, "dark", "dim"),), ([None, "dark"],), ("dark",), ((False, "dark"),),
        ((("is", 1, 1), "dim"),) * 9 + ((None, "dark"),),
    ]:
        wrong.append((registers, deeds, told))
    for term in [
        -1, 100, True, False, None, "other", "min", "", 1.5, ("+", 1), ("+", 1, 1, 1), ["+", 1, 1], ("*", 1, 1),
        ("is", 1, 1), ("+", 1, None), ("min", "level", ("max", 1, "other")), ("+", 1, True), (), ("level",),
        deep(7, "level", "+", 1), full(6, "level", "max"), full(5, "level", "-"), (None, 1, 1), (["+"], 1, 1),
    ]:
        wrong.append((registers, (("up", ((None, (("level", term),)),)),), shows))
        wrong.append((registers, deeds, ((("is", 1, term), "dim"), (None, "dark"))))
    wrong.append((registers, deeds, ((("is", 1, deep(6, "level", "+", 1)), "dim"), (None, "dark"))))
    check = ("is", "level", 1)
    for many in (5, 6, 7, 28):
        nots = check
        for _ in range(many):
            nots = ("not", nots)
        wrong.append((registers, (("up", ((nots, ()),)),), shows))
    for condition in [
        True, 1, "level", "not", (), ("is", 1), ("is", 1, 1, 1), ["is", 1, 1], ("not", check, check), ("not",),
        ("and", check), ("or", check, 1), ("and", check, None), ("not", None), ("equals", 1, 1), ("is", check, 1),
        ("is",), ("below",), ("and",), ("or",), ("and", ("equals", 1, 1), check), ("or", check, ("nor", check)),
        ("and", (), check), (None, 1, 1), ("below", 1, -1), ("is", 1, 100), ("is", "other", 1),
        deep(7, ("is", 1, 1), "and", check),
        deep(6, check, "or", check), full(5, check, "and"), ("not", ("and", check, "level")), (["not"], check),
    ]:
        wrong.append((registers, (("up", ((condition, ()),)),), shows))
        wrong.append((registers, deeds, ((condition, "dim"), (None, "dark"))))
    return wrong


def dim():
    return Desk(
        ["off", "low", "high"],
        {
            "up": {"off": "low", "low": "high", "high": "high"},
            "down": {"off": "off", "low": "off", "high": "low"},
        },
        {"off": "dark", "low": "half", "high": "light"},
    )


def grow():
    return Change(
        lamp(), dim(), {"off": "off", "on": "high"}, {"press": ["up", "up"], "cut": ["down", "down"]},
        {"dark": "dark", "half": "light", "light": "light"},
    )


def lamp_book():
    return Book([lamp(), dim()], [grow()])


def sights_of(desk):
    return sorted({desk.sight(one) for one in desk.standings})


def made_change(seed, first, second, most=3):
    """A change between two desks with rows of at most so many deeds, the same for each seed."""
    pick = random.Random(seed)
    return Change(
        first, second, {one: pick.choice(second.standings) for one in first.standings},
        {deed: [pick.choice(second.deeds) for _ in range(pick.randint(0, most))] for deed in first.deeds},
        {sight: pick.choice(sights_of(first)) for sight in sights_of(second)},
    )


def made_book(seed, editions):
    """A book of so many editions of two to four standings, the same for each seed."""
    desks = [made_desk(seed + 100 * k, 2 + (seed + k) % 3, 1 + (seed + k) % 2, 2) for k in range(editions)]
    return Book(desks, [made_change(seed + k, desks[k], desks[k + 1]) for k in range(editions - 1)])


def all_places(book):
    return [(edition, one) for edition, desk in enumerate(book.desks) for one in desk.standings]


def plain_inputs(book, edition):
    deeds = [(number, deed) for number in range(edition + 1) for deed in book.desks[number].deeds]
    return deeds + (["carry"] if edition < book.last else [])


def plain_led(book, place, row):
    """The place behind a row of inputs, by the words of the document alone."""
    edition, standing = place
    for one in row:
        if one == "carry":
            edition, standing = edition + 1, book.changes[edition].carried(standing)
        elif one[0] == edition:
            standing = book.desks[edition].lead(standing, [one[1]])
        else:
            newer = [(one[0] + 1, deed) for deed in book.changes[one[0]].row(one[1])]
            edition, standing = plain_led(book, (edition, standing), newer)
    return (edition, standing)


def rows_from(book, edition, most):
    """All rows of at most so many inputs that places of an edition take, by their lengths."""
    rows = [([], edition)]
    while rows:
        yield from (row for row, _ in rows)
        if len(rows[0][0]) == most:
            return
        rows = [
            (row + [one], at + (one == "carry"))
            for row, at in rows for one in plain_inputs(book, at)
        ]


def plain_values(program, firsts):
    """The values in the sequence of a compiled desk."""
    found = []
    for first in firsts:
        fresh = [first]
        while fresh:
            values = fresh.pop(0)
            if values not in found:
                found.append(values)
                fresh += [done(program, values, deed) for deed, _ in program[1]]
    return found


def shown_first(program):
    """The names that a program shows, in the sequence in which they stand there first."""
    return list(dict.fromkeys(name for _, name in program[2]))


def made_told_change(seed, first, second):
    """A program of a change between two programs, the same for each seed."""
    pick = random.Random(seed)
    cases = made_cases(pick, [row[0] for row in first[0]], [row[0] for row in second[0]])
    rows = tuple(
        (deed, tuple(pick.choice(second[1])[0] for _ in range(pick.choice([0, 1, 2, 15, 16])))) for deed, _ in first[1]
    )
    return (cases, rows, tuple((name, pick.choice(shown_first(first))) for name in shown_first(second)))


def variants(value):
    """Values like this one, with one part of another kind, left out, twice, exchanged or changed."""
    yield from [None, [], {}, ("nosuch",)]
    if isinstance(value, (tuple, list)):
        make = value.__class__
        yield (list if make is tuple else tuple)(value)
        for k, part in enumerate(value):
            yield make([*value[:k], *value[k + 1:]])
            yield make([*value[:k], part, *value[k:]])
            for changed in variants(part):
                yield make([*value[:k], changed, *value[k + 1:]])
            if k:
                yield make([*value[:k - 1], part, value[k - 1], *value[k + 1:]])
    elif isinstance(value, dict):
        for key in value:
            yield {other: value[other] for other in value if other != key}
            yield {**value, "nosuch": value[key]}
            yield list(value.items())
            for changed in variants(value[key]):
                yield {**value, key: changed}
    elif isinstance(value, bool):
        yield from [not value, int(value)]
    elif isinstance(value, int):
        yield from [value + 1, -value - 1, value == 1, str(value), 10 ** 59]
    elif isinstance(value, str):
        yield from [value + "x", "", [value], (value,), lamp()]


def grown(seed, desk, most=2):
    """A right change from a desk to one that has alike standings, other names and one more deed."""
    pick = random.Random(seed)
    copies = {one: [one + mark for mark in "xy"[:pick.randint(1, most)]] for one in desk.standings}
    if sum(len(some) for some in copies.values()) > 9:
        copies = {one: some[:1] for one, some in copies.items()}
    names = [one for some in copies.values() for one in some]
    homes = {one: home for home, some in copies.items() for one in some}
    pick.shuffle(names)
    deeds = {
        deed + "n": {one: pick.choice(copies[desk.lead(homes[one], [deed])]) for one in names} for deed in desk.deeds
    }
    if len(deeds) < 4:
        # Copies of one standing, in all editions, have its first letter: "more" leads them alike.
        swap = {one: pick.choice(names)[0] for one in sorted({name[0] for name in names})}
        deeds["more"] = {one: pick.choice([name for name in names if name[0] == swap[one[0]]]) for one in names}
    if len(deeds) < 4:
        deeds["stay"] = {one: pick.choice(copies[homes[one]]) for one in names}
    newer = Desk(names, deeds, {one: desk.sight(homes[one]) + "n" for one in names})
    rows = {deed: [deed + "n"] + ["stay"] * pick.randint(0, 2 if "stay" in deeds else 0) for deed in desk.deeds}
    return Change(
        desk, newer, {one: pick.choice(copies[one]) for one in desk.standings}, rows,
        {sight: sight[:-1] for sight in sights_of(newer)},
    )


def right_book(seed, editions):
    """A right book of so many editions, the same for each seed."""
    desks = [made_desk(seed, 2 + seed % 2, 1 + seed % 2, 2)]
    changes = []
    while len(desks) < editions:
        changes.append(grown(seed + len(desks), desks[-1]))
        desks.append(changes[-1].second)
    return Book(desks, changes)


def altered(change, places=None, rows=None, eyes=None):
    """A change like another one, with some places, rows or eyes told anew."""
    first, second = change.first, change.second
    return Change(
        first, second, {**{one: change.carried(one) for one in first.standings}, **(places or {})},
        {**{deed: change.row(deed) for deed in first.deeds}, **(rows or {})},
        {**{sight: change.eye(sight) for sight in sights_of(second)}, **(eyes or {})},
    )


def half_right_books(many):
    """So many books of two or three editions, a little beside right ones in one change."""
    for seed in range(many):
        book = right_book(seed, 2 + seed % 2)
        number = seed // 2 % book.last
        pick = random.Random(seed)
        change = book.changes[number]
        sights = sights_of(change.second)
        deed = pick.choice(change.first.deeds)
        wrong = [
            altered(change, rows={deed: []}),
            altered(change, rows={deed: change.row(deed) + ["more" if "more" in change.second.deeds else deed + "n"]}),
            altered(change, eyes={pick.choice(sights): pick.choice(sights_of(change.first))}),
            altered(change, places={pick.choice(change.first.standings): pick.choice(change.second.standings)}),
        ][seed % 4]
        changes = list(book.changes)
        changes[number] = wrong
        yield Book(book.desks, changes)


def plain_sight(book, place):
    return book.desks[place[0]].sight(place[1])


def plain_seen(book, place, edition):
    """What the eyes of an edition see at a place, by the words of the document alone."""
    number, standing = place
    sight = book.desks[number].sight(standing)
    while number > edition:
        number -= 1
        sight = book.changes[number].eye(sight)
    return sight


@kept
def plain_come(book):
    """The dict from the places that can come to rows that lead the start there."""
    rows = {book.start: []}
    for place in (fresh := [book.start]):
        for one in plain_inputs(book, place[0]):
            target = plain_led(book, place, [one])
            if target not in rows:
                rows[target] = rows[place] + [one]
                fresh.append(target)
    return rows


@kept
def plain_alike(book, one, other):
    """Whether two places of one edition are alike for good, by all pairs that come of them."""
    pairs = [(one, other)]
    for one, other in pairs:
        if plain_sight(book, one) != plain_sight(book, other):
            return False
        for label in plain_inputs(book, one[0]):
            pair = (plain_led(book, one, [label]), plain_led(book, other, [label]))
            if pair not in pairs:
                pairs.append(pair)
    return True


def is_plain_row(book, edition, value):
    """Whether any value is a list of inputs that places of an edition take; and where it leads."""
    if value.__class__ is not list:
        return None
    for one in value:
        kinds = (one.__class__, *[part.__class__ for part in one]) if one.__class__ is tuple else one.__class__
        if kinds not in (str, (tuple, int, str)) or one not in plain_inputs(book, edition):
            return None
        edition += one == "carry"
    return edition


def made_map(seed, first, second):
    pick = random.Random(seed)
    return {one: pick.choice(second.standings) for one in first.standings}


def desk_pairs(many):
    """So many tuples (elder desk, newer desk, map), of at most four standings each, in some of which rows answer."""
    for seed in range(many):
        first = made_desk(seed, 1 + seed % 4, 1 + seed % 2, 2)
        second = made_desk(seed + 300, 1 + seed // 2 % 4, 1 + seed // 3 % 3, 2)
        if seed % 3 == 0 and len(first.standings) < 4:
            change = grown(seed, first, 1)
            yield first, change.second, {one: change.carried(one) for one in first.standings}
        yield first, second, made_map(seed, first, second)


def not_maps(first, second):
    """Values that are no maps from a desk to another one, each a little beside one."""
    right = {one: second.start for one in first.standings}
    one = first.standings[-1]
    return any_values() + [
        {**right, "nosuch": second.start}, {**right, one: "nosuch"}, {**right, one: None}, {**right, one: [second.start]},
        {other: right[other] for other in right if other != one}, list(right.items()), list(right), second.start, right.keys(),
        {**right, 0: second.start}, {**{other: right[other] for other in right if other != one}, None: second.start},
    ]


def plain_alike_standings(desk, one, other):
    """Whether two standings are alike, by all pairs that come of them."""
    pairs = [(one, other)]
    for one, other in pairs:
        if desk.sight(one) != desk.sight(other):
            return False
        for deed in desk.deeds:
            pair = (desk.lead(one, [deed]), desk.lead(other, [deed]))
            if pair not in pairs:
                pairs.append(pair)
    return True


class Model:
    """A shelf by the words of the document: all is counted anew from what was done and sent."""

    def __init__(self, book, plan):
        self.book, self.plan = book, plan
        self.events, self.letters, self.failed, self.line, self.shelved = [], [], [], [], []
        # Entries (key, number, deed), and ("carry",) for all keys.
        self.was_done, self.was_due = [], []

    def edition(self):
        return self.was_due.count(("carry",))

    def inputs(self, key, rows):
        return ["carry" if row == ("carry",) else row[2] for row in rows if row == ("carry",) or row[0] == key]

    def place(self, key):
        return plain_led(self.book, self.book.start, self.inputs(key, self.was_done))

    def due(self, key):
        return plain_led(self.book, self.book.start, self.inputs(key, self.was_due))

    def shown(self, key):
        return (plain_sight(self.book, self.place(key)), plain_sight(self.book, self.due(key)))

    def times(self, number):
        return [row[1] for row in self.was_done if row != ("carry",)].count(number)

    def under_way(self):
        return sorted(self.line + self.shelved)

    def taken(self, word):
        if word == "replay":
            return self.shelved[0] if self.shelved else None
        for number in self.line:
            keys = [self.letters[other][0] for other in self.shelved]
            held = {"letter": False, "key": self.letters[number][0] in keys, "all": len(keys) > 0}[self.plan.way]
            if not held:
                return number
        return None

    def can(self, event):
        """Of what is an event by its form."""
        if event[0] == "send":
            return event[2][0] <= self.edition()
        if event[0] == "carry":
            fenced = any(self.letters[number][1] in self.plan.fence for number in self.line + self.shelved)
            return self.edition() < self.book.last and not fenced
        return self.taken(event[0]) is not None

    def is_left_out(self, number):
        key = self.letters[number][0]
        mine = [row[1] for row in self.was_done if row[0] == key]
        if self.plan.stamp and any(other >= number for other in mine):
            return True
        if self.plan.window is None or number not in mine:
            return False
        since = mine[::-1].index(number)
        return self.plan.window == "ever" or since < self.plan.window

    def do(self, event):
        self.events.append(event)
        if event[0] == "send":
            number = len(self.letters)
            self.letters.append(event[1:])
            self.failed.append(0)
            self.line.append(number)
            self.was_due.append((event[1], number, event[2]))
            return ("sent", number)
        if event[0] == "carry":
            self.was_done.append(event)
            self.was_due.append(event)
            return ("carried", self.edition())
        number = self.taken(event[0])
        if event[1] == "fails":
            self.failed[number] += event[0] == "work"
            if event[0] == "replay" or self.failed[number] < self.plan.tries:
                return ("failed", number, "stays")
            self.line = [other for other in self.line if other != number]
            self.shelved = self.shelved + [number]
            return ("failed", number, "shelved")
        left = self.is_left_out(number)
        if not left:
            self.was_done.append((self.letters[number][0], number, self.letters[number][1]))
        if event[1] == "done":
            self.line = [other for other in self.line if other != number]
            self.shelved = [other for other in self.shelved if other != number]
        return ("played", number, "left" if left else "done", event[1] == "done")


def all_events(book, keys):
    """All that is an event by its form, with these keys."""
    sends = [
        ("send", key, (number, deed))
        for key in keys for number, desk in enumerate(book.desks) for deed in desk.deeds
    ]
    return sends + [(word, how) for word in ("work", "replay") for how in ("done", "stops", "fails")] + [("carry",)]


def random_events(pick, book, plan, many, keys=("k", "ab")):
    """A row of so many possible events, with its model."""
    model = Model(book, plan)
    while len(model.events) < many:
        events = [event for event in all_events(book, keys) if model.can(event)]
        words = sorted({event[0] for event in events})
        weights = [{"send": 3, "work": 4, "replay": 2, "carry": 1}[word] for word in words]
        (word,) = pick.choices(words, weights)
        model.do(pick.choice([event for event in events if event[0] == word]))
    return model


def all_deeds(book):
    return [(number, deed) for number, desk in enumerate(book.desks) for deed in desk.deeds]


def made_plan(pick, book):
    fence = [deed for deed in sorted(all_deeds(book)) if pick.random() < 0.2]
    return Plan(
        pick.choice(["letter", "key", "all"]), tries=pick.randint(1, 3), window=pick.choice([None, 1, 2, 3, 12, "ever"]),
        stamp=pick.random() < 0.3, fence=fence,
    )


def all_plans(fences=((),)):
    """Plans of each way, window and stamp, with these fences."""
    for way in ("letter", "key", "all"):
        for window in (None, 1, 2, 3, 12, "ever"):
            for stamp in (False, True):
                for fence in fences:
                    yield Plan(way, window=window, stamp=stamp, fence=fence)


def check_bad_fences(test, book, call):
    """Holds that call(book, plan) refuses the first deed of a fence that is none of the book's."""
    for fence, bad in [
        ([(0, "nosuch")], (0, "nosuch")), ([(book.last + 1, book.desks[0].deeds[0])], (book.last + 1, book.desks[0].deeds[0])),
        (sorted(all_deeds(book)) + [(7, "a"), (7, "b")], (7, "a")), ([(0, "a"), (0, "b"), (9, "c")], (0, "a")),
        ([(10 ** 59, "x")], (10 ** 59, "x")),
    ]:
        # In a book of one edition the second plan is sound but for its fence.
        for plan in (Plan("key", fence=fence), Plan("all", stamp=True, fence=fence)):
            refused(test, BadFence, bad, call, book, plan)


def ring(many=9, editions=1):
    """A book whose first deed counts all that was done, round and round."""
    names = letters(many)
    steps = dict(zip(names, names[1:] + names[:1]))
    desk = Desk(names, {"go": steps, "stay": {name: name for name in names}}, {name: name for name in names})
    change = Change(desk, desk, {name: name for name in names}, {"go": ["go"], "stay": []}, {name: name for name in names})
    return Book([desk] * editions, [change] * (editions - 1))


@kept
def plain_step(book, place, one):
    return plain_led(book, place, [one])


@kept
def plain_late(book, one, other, many, fenced):
    """Whether some row with so many deeds, and carries unless they are fenced, parts two places for good."""
    layer = [(one, other)]
    for left in range(many, -1, -1):
        for pair in [] if fenced else layer:
            if pair[0][0] < book.last:
                carried = tuple(plain_step(book, place, "carry") for place in pair)
                if carried not in layer:
                    layer.append(carried)
        if left:
            layer = list(dict.fromkeys(
                tuple(plain_step(book, place, deed) for place in pair)
                for pair in layer for deed in plain_inputs(book, pair[0][0]) if deed != "carry"
            ))
    return not all(plain_alike(book, *pair) for pair in layer)


def parts_them(book, place, one, other):
    """Whether another sight is seen behind two rows from a place."""
    return plain_sight(book, plain_led(book, place, one)) != plain_sight(book, plain_led(book, place, other))


def is_between(book, place, value, many, fenced):
    """Whether a value is a row of inputs with so many deeds, and no carry if these are fenced."""
    if is_plain_row(book, place[0], value) is None:
        return False
    carries = value.count("carry")
    return len(value) - carries == many and not (fenced and carries)


def forgetting():
    """A book whose deeds of edition 0 forget what was done twice; behind a carry nothing is forgotten."""
    first = Desk(["a", "b", "c"], {"go": {"a": "b", "b": "c", "c": "c"}}, {"a": "s", "b": "s", "c": "t"})
    second = Desk(["d", "e"], {"run": {"d": "d", "e": "e"}}, {"d": "s", "e": "t"})
    change = Change(first, second, {"a": "d", "b": "d", "c": "e"}, {"go": []}, {"s": "s", "t": "s"})
    return Book([first, second], [change])


def capped(many):
    """A book whose first deed counts up to a top; what was counted is seen behind the carry alone."""
    names = letters(many)
    go = dict(zip(names, names[1:] + names[-1:]))
    first = Desk(names, {"go": go}, {name: "s" for name in names})
    second = Desk(names, {"go": go, "stay": {name: name for name in names}}, {name: name for name in names})
    return Book([first, second], [Change(first, second, {name: name for name in names}, {"go": ["go"]}, {name: "s" for name in names})])


def setters():
    """A book of one desk whose deeds may be done again, but do not change places."""
    leads = {deed: {name: deed for name in ("a", "b")} for deed in ("a", "b")}
    return Book([Desk(["a", "b"], leads, {"a": "s", "b": "t"})], [])


def new_names(names):
    """The dict from names to others, which ascend the other way."""
    return {name: "zyxwvutsrq"[k] * (1 + k % 3) for k, name in enumerate(sorted(names))}


def renamed(book):
    """The book with other names everywhere, and the dict from its deeds to those of that one."""
    desks, changes = [], []
    places = [new_names(desk.standings) for desk in book.desks]
    deeds = [new_names(desk.deeds) for desk in book.desks]
    sights = [new_names(sights_of(desk)) for desk in book.desks]
    for k, desk in enumerate(book.desks):
        desks.append(Desk(
            [places[k][one] for one in desk.standings],
            {deeds[k][deed]: {places[k][one]: places[k][desk.lead(one, [deed])] for one in desk.standings} for deed in desk.deeds},
            {places[k][one]: sights[k][desk.sight(one)] for one in desk.standings},
        ))
    for k, change in enumerate(book.changes):
        changes.append(Change(
            desks[k], desks[k + 1], {places[k][one]: places[k + 1][change.carried(one)] for one in book.desks[k].standings},
            {deeds[k][deed]: [deeds[k + 1][newer] for newer in change.row(deed)] for deed in book.desks[k].deeds},
            {sights[k + 1][sight]: sights[k][change.eye(sight)] for sight in sights[k + 1]},
        ))
    return Book(desks, changes), {(k, deed): (k, deeds[k][deed]) for k, deed in all_deeds(book)}


def same_but(plan, **more):
    """A plan like another one, with some things told anew."""
    told = {"tries": plan.tries, "window": plan.window, "stamp": plan.stamp, "fence": plan.fence, **more}
    return Plan(told.pop("way", plan.way), **told)


def twins():
    """A book of two editions, the newer one with two standings that are alike."""
    first = Desk(["off", "on"], {"set": {"off": "on", "on": "on"}}, {"off": "dark", "on": "light"})
    second = Desk(
        ["off", "on", "lit"], {"set": {"off": "on", "on": "on", "lit": "lit"}}, {"off": "dark", "on": "light", "lit": "light"},
    )
    return Book([first, second], [Change(first, second, {"off": "off", "on": "lit"}, {"set": ["set"]}, {"dark": "dark", "light": "light"})])


def told_changes(many):
    """So many changes between desks of at most five standings, some of them right, some that forget."""
    for seed in range(many):
        first = made_desk(seed, 1 + seed % 5, 1 + seed % 2, 2 + seed % 2)
        if seed % 3 == 0 and len(first.standings) < 5:
            yield grown(seed, first, 1)
        else:
            yield made_change(seed, first, made_desk(seed + 500, 1 + seed // 2 % 4, 1 + seed % 3, 2))


def flipping():
    """A change that turns two standings into two others, by name."""
    elder = Desk(["off", "on"], {"press": {"off": "on", "on": "off"}}, {"off": "dark", "on": "light"})
    pair = Desk(["a", "b"], {"flip": {"a": "b", "b": "a"}, "fix": {"a": "b", "b": "b"}}, {"a": "dark", "b": "light"})
    return Change(elder, pair, {"off": "a", "on": "b"}, {"press": ["flip"]}, {"dark": "dark", "light": "light"})


def forgetful():
    """A change that carries three standings, of which no two are alike, to one."""
    wheel = Desk(["x", "y", "z"], {"go": {"x": "y", "y": "z", "z": "x"}}, {"x": "p", "y": "q", "z": "p"})
    dot = Desk(["w"], {"nod": {"w": "w"}}, {"w": "p"})
    return Change(wheel, dot, {"x": "w", "y": "w", "z": "w"}, {"go": ["nod"]}, {"p": "p"})


def fading():
    """A change that loses nothing at once, and all behind its first deed."""
    first = Desk(["a", "b", "c"], {"go": {"a": "b", "b": "c", "c": "a"}}, {"a": "p", "b": "q", "c": "r"})
    second = Desk(["d", "e", "f"], {"sink": {"d": "d", "e": "d", "f": "d"}}, {"d": "p", "e": "q", "f": "r"})
    same = {"p": "p", "q": "q", "r": "r"}
    return Change(first, second, {"a": "d", "b": "e", "c": "f"}, {"go": ["sink"]}, same)


def merging():
    """A change of a line of standings, two of which are carried to one from where different ones come."""
    first = Desk(
        ["a", "b", "c", "d", "e"],
        {"go": {"a": "b", "b": "c", "c": "d", "d": "e", "e": "e"}, "hop": {"a": "c", "b": "c", "c": "a", "d": "e", "e": "e"}},
        {"a": "p", "b": "q", "c": "p", "d": "q", "e": "r"},
    )
    second = Desk(
        ["f", "g", "h"], {"run": {"f": "g", "g": "h", "h": "h"}, "rest": {"f": "f", "g": "g", "h": "h"}},
        {"f": "p", "g": "q", "h": "r"},
    )
    places = {"a": "f", "b": "g", "c": "f", "d": "g", "e": "h"}
    return Change(first, second, places, {"go": ["run"], "hop": ["rest"]}, {"p": "p", "q": "q", "r": "r"})


def plain_pairs(change, standing):
    """All pairs that come of a standing and the carried one, when deeds are played by rows."""
    first, second = change.first, change.second
    pairs = [(standing, change.carried(standing))]
    for one, other in pairs:
        for deed in first.deeds:
            pair = (first.lead(one, [deed]), second.lead(other, change.row(deed)))
            if pair not in pairs:
                pairs.append(pair)
    return pairs


def lasting_change(seed):
    """A change of four or five standings each of whose deeds is played by one deed, the same for each seed."""
    pick = random.Random(seed)
    names = letters(pick.randint(4, 5))
    others = letters(pick.randint(3, 7))
    deeds = ["go", "hop"][:pick.randint(1, 2)]
    leads = {}
    for deed in deeds:
        targets = pick.sample(names, len(names)) if pick.random() < 0.6 else [pick.choice(names) for _ in names]
        leads[deed] = dict(zip(names, targets))
    first = Desk(names, leads, {one: pick.choice("pqr") for one in names})
    second = Desk(others, {deed: {one: pick.choice(others) for one in others} for deed in deeds}, {one: "p" for one in others})
    return Change(
        first, second, {one: pick.choice(others) for one in names}, {deed: [deed] for deed in deeds},
        {"p": first.sight(names[0])},
    )


def resting():
    """A book of one desk, of whose standings the last two are alike, one reached behind the other."""
    go = {"a": "b", "b": "c", "c": "c"}
    return Book([Desk(["a", "b", "c"], {"go": go}, {"a": "s", "b": "t", "c": "t"})], [])


def split():
    """A book in which a deed, done twice ahead of the carry, leads to other standings than behind it, alike to those."""
    first = resting().desks[0]
    names = ["a", "b", "c", "d", "e"]
    second = Desk(
        names, {"go": {"a": "d", "b": "c", "c": "c", "d": "e", "e": "e"}, "stay": {name: name for name in names}},
        {"a": "s", "b": "t", "c": "t", "d": "t", "e": "t"},
    )
    return Book([first, second], [Change(first, second, {"a": "a", "b": "b", "c": "c"}, {"go": ["go"]}, {"s": "s", "t": "t"})])


def slow(*tops):
    """A book of as many editions, in which x, done again, is seen until enough was done in each of them.

    A standing tells whether x was done, and how often y was, till it was done once more than the top, or x twice.
    Carried, what was done of y is lost.
    """
    desks, changes = [], []
    for top in tops:
        names = ["n" + "abcd"[k] for k in range(top + 1)] + ["x" + "abcd"[k] for k in range(top + 1)] + ["t"]
        last = {"n" + "abcd"[top], "x" + "abcd"[top], "t"}
        more = {name: "t" if name in last else names[names.index(name) + 1] for name in names}
        once = {name: "x" + name[1:] if name[0] == "n" else "t" for name in names}
        desks.append(Desk(names, {"x": once, "y": more}, {name: "u" if name == "t" else "s" for name in names}))
    for first, second in zip(desks, desks[1:]):
        places = {name: "t" if name == "t" else name[0] + "a" for name in first.standings}
        changes.append(Change(first, second, places, {"x": ["x"], "y": ["y"]}, {"s": "s", "u": "u"}))
    return Book(desks, changes)
