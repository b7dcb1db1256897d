"""What several tests need: values of all kinds, desks made by number, plain searches."""

import itertools
import random

from lateeditions.books import Book, Change
from lateeditions.desks import Desk
from lateeditions.errors import BadRow


def lamp():
    return Desk(
        ["off", "on"],
        {"press": {"off": "on", "on": "off"}, "cut": {"off": "off", "on": "off"}},
        {"off": "dark", "on": "light"},
    )


def three():
    return Desk(
        ["off", "on", "lit"],
        {"press": {"off": "on", "on": "off", "lit": "off"}},
        {"off": "dark", "on": "light", "lit": "light"},
    )


def nested(make, depth):
    value = make([])
    for _ in range(depth - 1):
        value = make([value])
    return value


def any_values():
    """Values of all kinds, new each time; none of them is a name of a desk in the tests."""
    return [
        None, True, False, 0, 1, -1, 7, 10 ** 59, "", " ", "\n", "A", "a b", "nosuch", "longername",
        (), [], {}, (True,), (0,), [0], ["nosuch"], ("nosuch",), {"nosuch": "nosuch"}, {1: 2},
        {True: None}, {(): ()}, {None: []}, [[]], ([],), [()], [None], [["nosuch"]],
        nested(tuple, 30), nested(list, 30), {"a": nested(list, 29)}, lamp(), [lamp()], (lamp(),),
        BadRow(3), [BadRow(3)], {"a": lamp()}, "x" * 1000, ["x"] * 1000, ((1, 2), [3, {"a": True}]),
    ]


def letters(count):
    return ["abcdefghijklmnop"[k] for k in range(count)]


def made_desk(seed, many, deeds, sights):
    """A desk with so many standings, deeds and (at most) sights, the same for each seed."""
    pick = random.Random(seed)
    names = letters(many)
    return Desk(
        names,
        {deed: {one: pick.choice(names) for one in names} for deed in ["go", "hop", "run", "sit"][:deeds]},
        {one: pick.choice(["red", "blue", "green"][:sights]) for one in names},
    )


def rows_up_to(labels, most):
    """All rows of labels with at most so many, by their lengths."""
    for many in range(most + 1):
        for row in itertools.product(labels, repeat=many):
            yield list(row)


def plain_search(labels, most, found):
    """A shortest row of at most so many labels for which found(row) holds, or None."""
    for row in rows_up_to(labels, most):
        if found(row):
            return row
    return None


def check_shortest(test, row, labels, most, found):
    """Holds a row that was told (or None) against a plain search of all rows."""
    plain = plain_search(labels, most, found)
    if plain is None:
        test.assertIsNone(row)
    else:
        test.assertIsInstance(row, list)
        test.assertTrue(found(row))
        test.assertEqual(len(row), len(plain))


def refused(test, error, kept, call, *told, **more):
    """Calls, and holds that the error is raised and keeps this very value (or an equal number)."""
    with test.assertRaises(error) as caught:
        call(*told, **more)
    test.assertIs(caught.exception.__class__, error)
    (attribute,) = vars(caught.exception).values()
    if isinstance(kept, (int, tuple)) and not isinstance(kept, bool):
        test.assertEqual(attribute, kept)
        test.assertIs(attribute.__class__, kept.__class__)
    else:
        test.assertIs(attribute, kept)


WORDS = [
    "register", "deed", "show", "to", "from", "when", "do", "is", "below", "not", "and", "or", "min", "max",
    "carry", "play", "see", "as", "none",
]
UPS = ("up", ((None, (("level", ("+", "level", 1)),)),))
DOWNS = ("down", ((("is", "level", 0), ()), (None, (("level", ("-", "level", 1)),))))
LAMP = (
    (("level", 2, 0),), (UPS, DOWNS),
    ((("is", "level", 0), "dark"), (("is", "level", 1), "dim"), (None, "bright")),
)
SWITCH = (
    (("on", 1, 0),),
    (("set", ((None, (("on", 1),)),)), ("clear", ((None, (("on", 0),)),))),
    ((("is", "on", 1), "bright"), (None, "dark")),
)
TOLAMP = (
    ((("is", "on", 1), (("level", 2),)),),
    (("set", ("up", "up")), ("clear", ("down", "down"))),
    (("dark", "dark"), ("dim", "bright"), ("bright", "bright")),
)


def sum_of(many, word="x"):
    """A sum of so many parts, as a text and as a term (from left to right)."""
    term = word
    for _ in range(many - 1):
        term = ("+", term, word)
    return " + ".join([word] * many), term


def full(levels, leaf, sign):
    """A tree of so many levels with two parts below each but the last."""
    return leaf if levels == 1 else (sign, full(levels - 1, leaf, sign), full(levels - 1, leaf, sign))


def deep(levels, leaf, sign, other):
    """A tree of so many levels that grows on one side."""
    return leaf if levels == 1 else (sign, deep(levels - 1, leaf, sign, other), other)


def parts_of(tree):
    if not isinstance(tree, tuple):
        return 1
    return 1 + sum(parts_of(one) for one in tree[1:])


def made_term(pick, names, levels):
    if levels == 1 or pick.random() < 0.4:
        return pick.choice(list(names) + [0, 1, 2, 9, 99])
    sign = pick.choice(["+", "-", "min", "max"])
    return (sign, made_term(pick, names, levels - 1), made_term(pick, names, levels - 1))


def made_condition(pick, names, levels):
    if levels <= 2 or pick.random() < 0.4:
        return (pick.choice(["is", "below"]), made_term(pick, names, levels - 1), made_term(pick, names, levels - 1))
    sign = pick.choice(["not", "and", "or"])
    if sign == "not":
        return (sign, made_condition(pick, names, levels - 1))
    return (sign, made_condition(pick, names, levels - 1), made_condition(pick, names, levels - 1))


def fitting(make, pick, names):
    """A term or condition of at most 6 levels and 30 parts."""
    while True:
        tree = make(pick, names, pick.randint(2, 6))
        if parts_of(tree) <= 30:
            return tree


def made_cases(pick, names, settable):
    cases = []
    for _ in range(pick.choice([0, 1, 2, 3, 9])):
        condition = None if pick.random() < 0.3 else fitting(made_condition, pick, names)
        some = pick.sample(list(settable), pick.randint(0, len(settable)))
        cases.append((condition, tuple((name, fitting(made_term, pick, names)) for name in some)))
    return tuple(cases)


def made_program(seed):
    """A program of any form, the same for each seed."""
    pick = random.Random(seed)
    names = pick.sample(["x", "y", "level", "registry"], pick.randint(1, 3))
    registers, room = [], 60
    for name in names:
        top = pick.randint(0, min(8, room - 1))
        room //= top + 1
        registers.append((name, top, pick.randint(0, top)))
    deeds = [(name, made_cases(pick, names, names)) for name in ["go", "x", "hop", "run"][:pick.randint(1, 4)]]
    shows = [(fitting(made_condition, pick, names), pick.choice("abc")) for _ in range(pick.randint(0, 8))]
    return (tuple(registers), tuple(deeds), tuple(shows) + ((None, pick.choice("abx")),))


def not_programs():
    """Values that are no programs, each a little beside one."""
    registers, deeds, shows = LAMP
    wrong = [
        list(LAMP), LAMP[:2], LAMP + ((),), ([("level", 2, 0)], deeds, shows), (registers, list(deeds), shows),
        (registers, deeds, list(shows)), ((), deeds, shows), (registers, (), shows), (registers, deeds, ()),
        ((), (("up", ()),), ((None, "s"),)),
    ]
    for row in [
        ("level", 2), ("level", 2, 0, 0), ["level", 2, 0], ("level", 9, 0), ("level", -1, 0), ("level", 2, 3),
        ("level", 2, -1), ("level", True, 0), ("level", 2, False), ("level", "2", 0), ("level", None, None),
    ]:
        wrong.append(((row,), deeds, shows))
    for registers_too_many in [
        (("level", 2, 0), ("level", 1, 0)), (("level", 8, 0), ("other", 6, 0)),
        tuple((name, 0, 0) for name in ("level", "b", "c", "d")),
        (("level", 2, 0), ("b", 2, 0), ("c", 6, 0)),
    ]:
        wrong.append((registers_too_many, deeds, shows))
    for name in WORDS + ["", "Level", "abcdefghi", "a b", "x1", None, 1, ("a",)]:
        wrong.append((registers + ((name, 1, 0),), deeds, shows))
        wrong.append((registers, deeds + ((name, ()),), shows))
        wrong.append((registers, deeds, ((None, name),)))
    for cases in [
        [], None, ((None, ()),) * 10, ((None,),), (None,), ((None, (), ()),), ((None, []),), ([None, ()],),
        ((None, (("level", 1), ("level", 2))),), ((None, (("other", 1),)),), ((None, (("level",),)),),
        ((None, (["level", 1],)),), ((None, (("level", 1, 1),)),), ((None, ("level", 1)),), ((True, ()),),
        ((None, (("level", 1),) * 4),), ((None, None),), ((None, ((None, 1),)),),
    ]:
        wrong.append((registers, (("up", cases),), shows))
    wrong.append((registers, (("up", ()), ("up", ())), shows))
    wrong.append((registers, tuple((name, ()) for name in "abcde"), shows))
    for row in [("up",), ("up", (), ()), ["up", ()], "up", None]:
        wrong.append((registers, (row,), shows))
    for told in [
        ((("is", "level", 0), "dark"),), ((None, "dark"), (None, "dim")), ((None, "dark"), (("is", 1, 1), "dim")),
        ((None,),), ((None, "dark", "dim"),), ([None, "dark"],), ("dark",), ((False, "dark"),),
        ((("is", 1, 1), "dim"),) * 9 + ((None, "dark"),),
    ]:
        wrong.append((registers, deeds, told))
    for term in [
        -1, 100, True, False, None, "other", "min", "", 1.5, ("+", 1), ("+", 1, 1, 1), ["+", 1, 1], ("*", 1, 1),
        ("is", 1, 1), ("+", 1, None), ("min", "level", ("max", 1, "other")), ("+", 1, True), (), ("level",),
        deep(7, "level", "+", 1), full(6, "level", "max"), full(5, "level", "-"), (None, 1, 1), (["+"], 1, 1),
    ]:
        wrong.append((registers, (("up", ((None, (("level", term),)),)),), shows))
        wrong.append((registers, deeds, ((("is", 1, term), "dim"), (None, "dark"))))
    wrong.append((registers, deeds, ((("is", 1, deep(6, "level", "+", 1)), "dim"), (None, "dark"))))
    check = ("is", "level", 1)
    for many in (5, 6, 7, 28):
        nots = check
        for _ in range(many):
            nots = ("not", nots)
        wrong.append((registers, (("up", ((nots, ()),)),), shows))
    for condition in [
        True, 1, "level", "not", (), ("is", 1), ("is", 1, 1, 1), ["is", 1, 1], ("not", check, check), ("not",),
        ("and", check), ("or", check, 1), ("and", check, None), ("not", None), ("equals", 1, 1), ("is", check, 1),
        ("is",), ("below",), ("and",), ("or",), ("and", ("equals", 1, 1), check), ("or", check, ("nor", check)),
        ("and", (), check), (None, 1, 1), ("below", 1, -1), ("is", 1, 100), ("is", "other", 1), deep(7, ("is", 1, 1), "and", check),
        deep(6, check, "or", check), full(5, check, "and"), ("not", ("and", check, "level")), (["not"], check),
    ]:
        wrong.append((registers, (("up", ((condition, ()),)),), shows))
        wrong.append((registers, deeds, ((condition, "dim"), (None, "dark"))))
    return wrong


def dim():
    return Desk(
        ["off", "low", "high"],
        {
            "up": {"off": "low", "low": "high", "high": "high"},
            "down": {"off": "off", "low": "off", "high": "low"},
        },
        {"off": "dark", "low": "half", "high": "light"},
    )


def grow():
    return Change(
        lamp(), dim(), {"off": "off", "on": "high"}, {"press": ["up", "up"], "cut": ["down", "down"]},
        {"dark": "dark", "half": "light", "light": "light"},
    )


def lamp_book():
    return Book([lamp(), dim()], [grow()])


def sights_of(desk):
    return sorted({desk.sight(one) for one in desk.standings})


def made_change(seed, first, second, most=3):
    """A change between two desks with rows of at most so many deeds, the same for each seed."""
    pick = random.Random(seed)
    return Change(
        first, second, {one: pick.choice(second.standings) for one in first.standings},
        {deed: [pick.choice(second.deeds) for _ in range(pick.randint(0, most))] for deed in first.deeds},
        {sight: pick.choice(sights_of(first)) for sight in sights_of(second)},
    )


def made_book(seed, editions):
    """A book of so many editions of two to four standings, the same for each seed."""
    desks = [made_desk(seed + 100 * k, 2 + (seed + k) % 3, 1 + (seed + k) % 2, 2) for k in range(editions)]
    return Book(desks, [made_change(seed + k, desks[k], desks[k + 1]) for k in range(editions - 1)])


def all_places(book):
    return [(edition, one) for edition, desk in enumerate(book.desks) for one in desk.standings]


def plain_inputs(book, edition):
    deeds = [(number, deed) for number in range(edition + 1) for deed in book.desks[number].deeds]
    return deeds + (["carry"] if edition < book.last else [])


def plain_led(book, place, row):
    """The place behind a row of inputs, by the words of the document alone."""
    edition, standing = place
    for one in row:
        if one == "carry":
            edition, standing = edition + 1, book.changes[edition].carried(standing)
        elif one[0] == edition:
            standing = book.desks[edition].lead(standing, [one[1]])
        else:
            newer = [(one[0] + 1, deed) for deed in book.changes[one[0]].row(one[1])]
            edition, standing = plain_led(book, (edition, standing), newer)
    return (edition, standing)


def rows_from(book, edition, most):
    """All rows of at most so many inputs that places of an edition take, by their lengths."""
    rows = [([], edition)]
    while rows:
        yield from (row for row, _ in rows)
        if len(rows[0][0]) == most:
            return
        rows = [
            (row + [one], at + (one == "carry"))
            for row, at in rows for one in plain_inputs(book, at)
        ]
