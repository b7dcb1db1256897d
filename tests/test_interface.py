"""All names of the document's interface: where they stand, with which arguments, by place and by name."""

import importlib
import inspect
import unittest

from lateeditions.amid import Round
from lateeditions.books import Book, Change
from lateeditions.console import Console
from lateeditions.desks import Desk
from lateeditions.handed import Handing
from lateeditions.houses import House
from lateeditions.plans import Plan
from lateeditions.rowsofdesks import Chain
from lateeditions.shelves import Shelf
from chains import bell
from support import LAMP, SWITCH, TOLAMP, flipping, forgetful, grow, lamp, lamp_book, refused, right_book, three

# Functions with their arguments, in the document's sequence.
FUNCTIONS = {
    "likeness": ["alike(desk, one, other)", "parting_row(desk, one, other)", "lots(desk)", "is_likeness(desk, value)"],
    "smallest": ["smallest(desk)", "desks_alike(first, second)", "desks_parted(first, second)"],
    "surely": ["sure_row(desk, standings)", "telling_row(desk, standings)"],
    "programs": [
        "is_program(value)", "is_values(program, value)", "first_values(program)", "all_values(program)", "shown(program, values)",
        "done(program, values, deed)", "played(program, values, row)", "case_of(program, values, deed)", "idle_cases(program)",
    ],
    "reading": ["parse_program(text)", "parse_change(first, second, text)"],
    "printing": ["format_program(program)", "format_change(value)"],
    "compiling": ["compiled(program, *, more=())", "is_compiled(program, desk, value)", "same_programs(first, second)", "program_of(desk)"],
    "machines": [
        "inputs(book, edition)", "led(book, place, row)", "book_come(book)", "alike_for_good(book, one, other)",
        "parting_inputs(book, one, other)", "book_lots(book)",
    ],
    "eyes": ["seen(book, place, edition)", "seen_along(book, place, row, edition)"],
    "changetexts": [
        "is_change(first, second, value)", "carried(first, second, change, values)", "compiled_book(programs, changes)",
        "led_directly(programs, changes, row)",
    ],
    "changes": [
        "elder_deeds(book, number)", "keeps_deeds(book, number)", "keeps_eyes(book, number)", "is_right(book)", "right_changes(book)",
        "deed_break(book, number)", "eyes_break(book, number)", "is_deed_break(book, number, value)", "is_eyes_break(book, number, value)",
    ],
    "changepapers": ["right_table(book)", "is_right_table(book, value)", "first_wrong(book, value)", "break_of(book)"],
    "joins": ["plain_change(desk)", "joined(first, second)", "without_middle(book)", "joined_table(book, table)"],
    "vectors": [
        "vector_of(first, second, places)", "goal_of(first, second, places, deed)", "led_vector(second, vector, row)",
        "vectors_alike(second, one, other)",
    ],
    "finding": [
        "row_for(first, second, places, deed)", "is_answer(first, second, places, deed, value)", "closed_lot(first, second, places, deed)",
        "is_closed_lot(first, second, places, deed, value)", "rows_for(first, second, places)", "unanswered(first, second, places)",
    ],
    "forced": [
        "forced_map(first, second, rows, begin)", "goes_with(first, second, rows, begin, value)", "quarrel(first, second, rows, begin)",
        "is_quarrel(first, second, rows, begin, value)", "eyes_for(first, second, places)", "clash(first, second, places)",
        "change_for(first, second, places)",
    ],
    "plans": ["is_fence(book, plan)"],
    "outcomes": ["outcome(book, plan, events)", "done_and_due(book, plan, events, key)", "cut_to(book, plan, events, key)", "one_key(book, plan, events)"],
    "bearing": [
        "passes_carry(book, edition, deed)", "change_places(book, edition, first, second)", "bears_between(book, edition, deed, many, fenced)",
        "made_up_for(book, edition, first, second)",
    ],
    "conditions": ["failing(book, plan)", "is_failing(book, plan, value)", "is_sound(book, plan)", "late_row(book, place, deed, many, fenced)"],
    "harming": ["way_to(book, place)", "harm_of(book, plan)", "harm_from(book, plan, instance)"],
    "papers": ["paper_of(book, plan)", "is_paper(book, plan, value)", "least_paper(book, plan)"],
    "enough": ["least_fence(book, plan)", "least_window(book, plan)", "is_as_strict(one, other)", "sparing(book)"],
    "back": [
        "map_back(change)", "is_map_back(change, value)", "fall(change)", "is_fall(change, value)", "lasting_back(change)",
        "lasting_fall(change)", "is_lasting_back(change, value)", "is_lasting_fall(change, value)",
    ],
    "notesleft": ["notes(change)", "are_notes(change, value)", "back_by(change, kept)", "lasting_notes(change)", "do_notes_last(change, value)"],
    "amid": ["round_harm(change)"],
    "rowsofdesks": ["behind(one, other)"],
    "handed": ["passed(chain, events)", "harms(chain, value)", "harmed(chain, value)"],
    "rowharm": ["weak_seats(chain)", "harm(chain)", "harm_at(chain, seat)", "ways_enough(chain)", "loosest_enough(chain)"],
    "logs": ["is_log(book, plan, value)", "first_fault(book, plan, value)", "house_of(book, plan, log)"],
    "texts": [
        "format_row(row)", "parse_row(text)", "format_event(event)", "parse_event(text)", "format_plan(plan)", "parse_plan(text)",
        "format_log(log)", "parse_log(text)",
    ],
}
SHELF = [
    "can(event)", "do(event)", "place(key)", "due(key)", "shown(key)", "letter(number)", "times(number)", "fails(number)", "undo(number)",
    "fork()",
]
SHELF_TOLD = ["book", "plan", "edition", "line", "shelved", "quiet", "events"]
# Classes: the module, how they are made, their methods, their properties, and whether they compare.
CLASSES = {
    Desk: ("desks", "(standings, deeds, sights)", ["lead(standing, row)", "sight(standing)", "come()"], ["standings", "deeds", "start"], True),
    Change: (
        "books", "(first, second, places, rows, eyes)", ["carried(standing)", "row(deed)", "eye(sight)"], ["first", "second"], True,
    ),
    Book: ("books", "(desks, changes)", [], ["desks", "changes", "last", "start"], True),
    Plan: (
        "plans", "(way, *, tries=1, window=None, stamp=False, fence=())", [], ["way", "tries", "window", "stamp", "fence"], True,
    ),
    Shelf: ("shelves", "(book, plan)", SHELF, SHELF_TOLD, True),
    Round: (
        "amid", "(change, keys)",
        ["do(event)", "left()", "standing(key)", "due(key)", "home(key)", "give_up(back)", "history()", "undo(many)"], [], False,
    ),
    Chain: ("rowsofdesks", "(desks, plans)", ["loosest(seat)", "alone(seat)", "part(first, last)", "__len__()"], ["desks", "plans"], True),
    Handing: (
        "handed", "(chain)", [
            "can(event)", "do(event)", "standing_at(seat, key)", "due_at(seat, key)", "line_at(seat)", "shelf_at(seat)",
            "times_at(seat, number)", "letter(number)", "wrong()", "undo(number)", "fork()",
        ], ["chain", "quiet", "events"], True,
    ),
    House: (
        "houses", "(book, plan)", SHELF + [
            "look(key, edition)", "due_look(key, edition)", "story(number)", "done(key)", "due_row(key)", "mark()", "back(number)", "log()",
        ], SHELF_TOLD + ["marks"], True,
    ),
    Console: ("console", "()", ["execute(line)"], [], False),
}


def of(module, name):
    return getattr(importlib.import_module(f"lateeditions.{module}"), name)


def samples():
    """For each function some right arguments, in the document's sequence."""
    book, plan, fenced = lamp_book(), Plan("key", window=1), Plan("key", window=1, fence=[(0, "press")])
    elder, pair, near = flipping().first, flipping().second, {"off": "a", "on": "b"}
    rows, programs, changes = {"press": ["flip"]}, [SWITCH, LAMP], [TOLAMP]
    press, cut, place = (0, "press"), (0, "cut"), (1, "low")
    late = [("send", "k", press), ("work", "fails"), ("send", "k", cut), ("work", "done"), ("replay", "done")]
    chain = Chain([lamp(), bell()], [Plan("letter"), Plan("key")])
    handed = [("send", "k", "press"), ("work", 0, "done"), ("work", 1, "done")]
    log = [(("send", "k", press), ("sent", 0))]
    three_book = right_book(3, 3)
    table = of("changepapers", "right_table")(three_book)
    desk, values = of("compiling", "compiled")(LAMP)
    return {
        "alike": [lamp(), "off", "on"], "parting_row": [three(), "off", "on"], "lots": [three()],
        "is_likeness": [lamp(), [["off"], ["on"]]], "smallest": [three()], "desks_alike": [three(), lamp()], "desks_parted": [three(), three()],
        "sure_row": [lamp(), ["off", "on"]], "telling_row": [lamp(), ["on"]], "is_program": [LAMP], "is_values": [LAMP, (2,)],
        "first_values": [LAMP], "all_values": [LAMP], "programs.shown": [LAMP, (1,)], "programs.done": [LAMP, (1,), "up"],
        "played": [LAMP, (0,), ["up"]], "case_of": [LAMP, (1,), "down"], "idle_cases": [LAMP],
        "parse_program": ["register on 0 to 1 from 0\ndeed go: none\nshow: a"],
        "parse_change": [SWITCH, LAMP, "carry: none\nplay set: up\nplay clear: none\nsee dark as dark\nsee dim as dark\nsee bright as bright"],
        "format_program": [LAMP], "format_change": [TOLAMP], "compiled": [LAMP], "is_compiled": [LAMP, desk, dict(zip("abc", values))],
        "same_programs": [SWITCH, LAMP], "program_of": [lamp()], "inputs": [book, 0], "led": [book, (0, "off"), [press, "carry"]],
        "book_come": [book], "alike_for_good": [book, place, (1, "high")], "parting_inputs": [book, place, (1, "high")], "book_lots": [book],
        "seen": [book, place, 0], "seen_along": [book, place, [press], 1], "is_change": [SWITCH, LAMP, TOLAMP],
        "changetexts.carried": [SWITCH, LAMP, TOLAMP, (1,)], "compiled_book": [programs, changes],
        "led_directly": [programs, changes, ["carry", (1, "up")]], "elder_deeds": [book, 0], "keeps_deeds": [book, 0], "keeps_eyes": [book, 0],
        "is_right": [book], "right_changes": [book], "deed_break": [book, 0], "eyes_break": [book, 0],
        "is_deed_break": [book, 0, ([], press, [])], "is_eyes_break": [book, 0, []], "right_table": [three_book],
        "is_right_table": [three_book, table], "first_wrong": [three_book, table[:1]], "break_of": [book], "plain_change": [lamp()],
        "joined": [grow(), of("joins", "plain_change")(grow().second)], "without_middle": [three_book], "joined_table": [three_book, table],
        "vector_of": [elder, pair, near], "goal_of": [elder, pair, near, "press"], "led_vector": [pair, ("a", "b"), ["flip"]],
        "vectors_alike": [pair, ("a",), ("b",)], "row_for": [elder, pair, near, "press"], "is_answer": [elder, pair, near, "press", ["flip"]],
        "closed_lot": [elder, pair, near, "press"], "is_closed_lot": [elder, pair, near, "press", [("a", "b")]],
        "rows_for": [elder, pair, near], "unanswered": [elder, pair, near], "forced_map": [elder, pair, rows, "a"],
        "goes_with": [elder, pair, rows, "a", near], "quarrel": [elder, pair, {"press": ["fix"]}, "a"],
        "is_quarrel": [elder, pair, {"press": ["fix"]}, "a", ([], ["press"] * 2)], "eyes_for": [elder, pair, near],
        "clash": [elder, pair, {"off": "a", "on": "a"}], "change_for": [elder, pair, near], "is_fence": [book, fenced],
        "outcome": [book, Plan("letter"), late], "done_and_due": [book, Plan("letter"), late, "k"], "cut_to": [book, Plan("letter"), late, "k"],
        "one_key": [book, Plan("letter"), late], "passes_carry": [book, 0, press], "change_places": [book, 0, press, cut],
        "bears_between": [book, 1, (1, "up"), 1, True], "made_up_for": [book, 0, press, cut], "failing": [book, plan],
        "is_failing": [book, plan, ("carry", (0, "on"), press)], "is_sound": [book, fenced], "late_row": [book, (0, "off"), press, 1, False],
        "way_to": [book, place], "harm_of": [book, plan], "harm_from": [book, plan, ("carry", (0, "on"), press)], "paper_of": [book, fenced],
        "is_paper": [book, fenced, []], "least_paper": [book, fenced], "least_fence": [book, plan], "least_window": [book, fenced],
        "is_as_strict": [plan, fenced], "sparing": [book], "map_back": [flipping()], "is_map_back": [flipping(), {"a": "off", "b": "on"}],
        "fall": [forgetful()], "is_fall": [forgetful(), ([], ["go"])], "lasting_back": [flipping()], "lasting_fall": [forgetful()],
        "is_lasting_back": [flipping(), {"a": "off", "b": "on"}], "is_lasting_fall": [forgetful(), (([], []), (["go"], []))],
        "notes": [forgetful()], "are_notes": [flipping(), {"off": 0, "on": 0}], "back_by": [flipping(), {"off": 0, "on": 1}],
        "lasting_notes": [flipping()], "do_notes_last": [flipping(), {"off": 0, "on": 0}], "round_harm": [grow()], "behind": [chain, chain],
        "passed": [chain, handed], "harms": [chain, handed], "harmed": [chain, handed], "weak_seats": [chain], "harm": [chain],
        "harm_at": [chain, 0], "ways_enough": [chain], "loosest_enough": [chain], "is_log": [book, plan, log],
        "first_fault": [book, plan, log + log], "house_of": [book, plan, log], "format_row": [[press, "carry"]], "parse_row": ["0.a carry"],
        "format_event": [("send", "k", press)], "parse_event": ["send k 0.a"], "format_plan": [fenced],
        "parse_plan": ["way key tries 1 window none stamp no fence none"], "format_log": [log], "parse_log": ["carry => carried 1"],
    }


class InterfaceTest(unittest.TestCase):
    def test_functions(self):
        for module, texts in FUNCTIONS.items():
            for text in texts:
                call = of(module, text.split("(")[0])
                self.assertEqual(f"{call.__name__}{inspect.signature(call)}", text)
                self.assertEqual(call.__module__, f"lateeditions.{module}")

    def test_classes(self):
        for kind, (module, made, methods, told, compares) in CLASSES.items():
            self.assertEqual(kind.__module__, f"lateeditions.{module}")
            self.assertEqual(str(inspect.signature(kind)), made)
            self.assertEqual("__eq__" in vars(kind), compares)
            for text in methods:
                method = vars(kind)[text.split("(")[0]]
                names = [f"{one}" for one in list(inspect.signature(method).parameters.values())[1:]]
                self.assertEqual(text, f"{method.__name__}({', '.join(names)})")
            for name in told:
                self.assertIsInstance(vars(kind)[name], property, name)

    def test_by_place_and_by_name(self):
        right = samples()
        for module, texts in FUNCTIONS.items():
            for text in texts:
                name = text.split("(")[0]
                call, told = of(module, name), right.pop(f"{module}.{name}", None) or right.pop(name)
                names = [one for one in inspect.signature(call).parameters if one != "more"]
                self.assertEqual(len(names), len(told), text)
                by_name = call(**dict(reversed(list(zip(names, told)))))
                self.assertEqual(call(*told), by_name, text)
                self.assertEqual(call(*told), by_name, text)
        self.assertEqual(right, {})

    def test_objects_made_and_methods_called_by_name(self):
        press, chain = (0, "press"), Chain([lamp(), bell()], [Plan("letter"), Plan("key")])
        leads = {"press": {"a": "b", "b": "a"}}
        shelf_calls = [
            ("can", [("carry",)]), ("do", [("work", "stops")]), ("place", ["k"]), ("due", ["k"]), ("shown", ["k"]), ("letter", [0]),
            ("times", [0]), ("fails", [0]), ("fork", []), ("undo", [1]),
        ]
        house_calls = [
            ("look", ["k", 0]), ("due_look", ["k", 0]), ("story", [0]), ("done", ["k"]), ("due_row", ["k"]), ("mark", []), ("back", [0]), ("log", []),
        ]
        for kind, made, begin, calls in [
            (Desk, [["a", "b"], leads, {"a": "s", "b": "t"}], [], [("lead", ["a", ["press"]]), ("sight", ["b"]), ("come", [])]),
            (
                Change, [lamp(), lamp(), {"off": "on", "on": "on"}, {"press": [], "cut": ["press"]}, {"dark": "light", "light": "dark"}],
                [], [("carried", ["off"]), ("row", ["cut"]), ("eye", ["dark"])],
            ),
            (Book, [[lamp()], []], [], []),
            (Shelf, [lamp_book(), Plan("key")], [("do", [("send", "k", press)])], shelf_calls),
            (House, [lamp_book(), Plan("key")], [("do", [("send", "k", press)])], shelf_calls[:-1] + house_calls + shelf_calls[-1:]),
            (Round, [grow(), {"k": "on"}], [], [
                ("do", [("carry", "k")]), ("left", []), ("standing", ["k"]), ("due", ["k"]), ("home", ["k"]),
                ("give_up", [{"off": "off", "low": "on", "high": "on"}]), ("history", []), ("undo", [1]),
            ]),
            (Chain, [[lamp(), bell()], [Plan("key"), Plan("all")]], [], [("loosest", [1]), ("alone", [1]), ("part", [0, 1])]),
            (Handing, [chain], [("do", [("send", "k", "press")])], [
                ("can", [("work", 0, "done")]), ("do", [("work", 0, "stops")]), ("standing_at", [0, "k"]), ("due_at", [1, "k"]),
                ("line_at", [1]), ("shelf_at", [0]), ("times_at", [0, 0]), ("letter", [0]), ("wrong", []), ("fork", []), ("undo", [1]),
            ]),
            (Console, [], [], [("execute", ["plan"])]),
        ]:
            names = list(inspect.signature(kind).parameters)
            one, other = kind(*made), kind(**dict(zip(names, made)))
            for name, args in begin:
                self.assertEqual(getattr(one, name)(*args), getattr(other, name)(*args))
            for name, args in calls:
                names = list(inspect.signature(getattr(other, name)).parameters)
                self.assertEqual(getattr(one, name)(*args), getattr(other, name)(**dict(zip(names, args))), (kind, name))
            if CLASSES[kind][-1]:
                self.assertTrue(one == other)
            listed = {text.split("(")[0] for text in CLASSES[kind][2]} - {"__len__"}
            self.assertEqual(listed, {name for name, _ in calls}, kind)
        self.assertEqual(Plan("key", tries=2, window=1, stamp=True, fence=[press]), Plan(fence=(press,), stamp=True, window=1, tries=2, way="key"))

    def test_arguments_are_not_changed(self):
        before, after = samples(), samples()
        for module, texts in FUNCTIONS.items():
            for text in texts:
                name = text.split("(")[0]
                key = f"{module}.{name}" if f"{module}.{name}" in after else name
                of(module, name)(*after[key])
                self.assertEqual(after[key], before[key], text)

    def test_arguments_that_must_be_passed_by_name(self):
        with self.assertRaises(TypeError):
            Plan("key", 2)
        with self.assertRaises(TypeError):
            of("compiling", "compiled")(LAMP, [(1,)])
        self.assertEqual(of("compiling", "compiled")(more=[(1,)], program=LAMP)[1], ((0,), (1,), (2,)))

    def test_what_returns_none(self):
        house = House(lamp_book(), Plan("key"))
        house.do(("send", "k", (0, "press")))
        house.mark()
        tour = Round(grow(), {"k": "on"})
        handing = Handing(Chain([lamp()], [Plan("key")]))
        for call, told in [
            (house.undo, 0), (house.back, 0), (house.undo, 1), (tour.do, ("carry", "k")), (tour.undo, 1), (handing.undo, 0),
            (Shelf(lamp_book(), Plan("key")).undo, 0),
        ]:
            self.assertIsNone(call(told))

    def test_a_refused_console_line(self):
        refused(self, of("errors", "InvalidCommand"), "x", Console().execute, "x")


if __name__ == "__main__":
    unittest.main()
