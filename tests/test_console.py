import random
import unittest

from lateeditions.changes import keeps_deeds, keeps_eyes
from lateeditions.changetexts import compiled_book
from lateeditions.console import Console
from lateeditions.enough import least_fence
from lateeditions.errors import (
    BadBook, BadChange, BadEdition, BadEye, BadFence, BadLog, BadMark, BadName, BadNumber, BadText, DeskError, InvalidCommand,
    NoHouse, NotNow, TooFar, TooMany,
)
from lateeditions.harming import harm_of
from lateeditions.houses import House
from lateeditions.plans import Plan
from lateeditions.printing import format_change, format_program
from lateeditions.reading import parse_change, parse_program
from lateeditions.texts import format_event, format_log, format_plan, parse_plan
from support import (
    LAMP, SWITCH, TOLAMP, any_values, kept, made_plan, made_program, made_told_change, random_events, refused,
)

SWITCH_LINE = "edition : " + format_program(SWITCH).replace("\n", " / ")
LAMP_LINE = "edition : " + format_program(LAMP).replace("\n", " / ")
TOLAMP_LINE = "change : " + format_change(TOLAMP).replace("\n", " / ")
TELL = [SWITCH_LINE, LAMP_LINE, TOLAMP_LINE]
PLAN_LINE = "plan way key tries 2 window 1 stamp no fence 0.set 1.up"
HOUSE_LINES = [
    "edition", "line", "shelf", "quiet", "mark", "log", "back 0", "undo 0", "look k 0", "due k 0", "carry", "send k 0.set",
    "work done", "work stops", "work fails", "replay done", "replay stops", "replay fails", "read none", "read carry => carried 1",
    "look K 99", "due none 0", "back 77", "undo 12345", "send K x", "work it", "replay ", "read ", "read x", "read carry",
]
FREE_LINES = ["programs", "plan", "harm", "fence", "show 0", "show 1", "change 1", "desk 0", "desk 1", "right 1"]


def led(*lines):
    """A console behind lines."""
    console = Console()
    for line in lines:
        console.execute(line)
    return console


def opened(*lines):
    return led(*TELL, "plan way letter tries 1 window none stamp no fence none", "open", *lines)


def told(call, *args):
    """What a call returns, or the error that it raises with what it keeps."""
    try:
        return call(*args)
    except DeskError as error:
        return (error.__class__, *vars(error).values())


def answers(console):
    """What the lines that change nothing answer."""
    lines = FREE_LINES + ["edition", "line", "shelf", "quiet", "log", "look k 0", "due k 0", "look ab 1", "due m 1"]
    return [told(console.execute, line) for line in lines]


class TellingTest(unittest.TestCase):
    def test_at_first(self):
        console = Console()
        self.assertEqual(console.execute("programs"), "0")
        self.assertEqual(console.execute("plan"), "way letter tries 1 window none stamp no fence none")
        self.assertEqual(console.execute(line="programs"), "0")
        for line in ("open", "harm", "fence"):
            self.assertEqual(told(console.execute, line), (BadBook, []))
        for line in HOUSE_LINES:
            refused(self, NoHouse, line, console.execute, line)

    def test_editions_and_changes(self):
        console = Console()
        self.assertEqual(console.execute(SWITCH_LINE), "ok")
        self.assertEqual([console.execute("programs"), console.execute("show 0")], ["1", SWITCH_LINE[10:]])
        self.assertEqual(console.execute(LAMP_LINE), "ok")
        self.assertEqual([console.execute("programs"), console.execute("show 1")], ["2", LAMP_LINE[10:]])
        refused(self, BadChange, None, console.execute, "change 1")
        self.assertEqual(console.execute(TOLAMP_LINE), "ok")
        self.assertEqual(console.execute("change 1"), TOLAMP_LINE[9:])
        self.assertEqual(
            console.execute("change 1"),
            "carry: when on is 1 do level = 2 / play set: up up / play clear: down down / see dark as dark / see dim as bright"
            " / see bright as bright",
        )
        self.assertEqual(console.execute("show 0"), "register on 0 to 1 from 0 / deed set: do on = 1 / deed clear: do on = 0 / show: when on is 1 bright; dark")
        self.assertEqual([console.execute("show 0"), console.execute("show 1")], [SWITCH_LINE[10:], LAMP_LINE[10:]])

    def test_a_change_in_the_place_of_another(self):
        console = led(*TELL)
        other = "change : carry : none / play set : up / play clear : none / see dark as dark / see dim as dark / see bright as bright"
        self.assertEqual(console.execute(other), "ok")
        self.assertEqual(
            console.execute("change 1"),
            "carry: none / play set: up / play clear: none / see dark as dark / see dim as dark / see bright as bright",
        )
        # It is told of the newest edition, from the one ahead of it.
        self.assertEqual(console.execute(SWITCH_LINE), "ok")
        refused(self, BadChange, None, console.execute, "change 2")
        back = "change : carry: when level is 0 do on = 0; do on = 1 / play up: set / play down: none / see bright as bright / see dark as dark"
        self.assertEqual([console.execute(back), console.execute("change 2")], ["ok", back[9:]])
        self.assertEqual(console.execute("change 1")[:5], "carry")

    def test_any_number_of_editions(self):
        console = led(*[SWITCH_LINE] * 5)
        self.assertEqual([console.execute("programs"), console.execute("show 4")], ["5", SWITCH_LINE[10:]])
        programs = [parse_program(SWITCH_LINE[10:].replace(" / ", "\n"))] * 5
        for line in ("open", "harm", "fence", "desk 4", "desk 0", "right 4"):
            self.assertEqual(told(console.execute, line), (BadBook, programs))
        refused(self, BadChange, None, console.execute, "change 4")
        refused(self, BadNumber, 5, console.execute, "show 5")

    def test_what_an_error_keeps_is_not_the_console(self):
        for lines in ([SWITCH_LINE] * 4, [SWITCH_LINE] * 2):
            console = led(*lines)
            with self.assertRaises(DeskError) as caught:
                console.execute("open")
            if isinstance(caught.exception, BadBook):
                caught.exception.value.clear()
            self.assertEqual(console.execute("programs"), str(len(lines)))

    def test_forms_that_are_read(self):
        console = led(
            "edition :   register on 0 to 1 from 0 /  / deed   set:do on=1 / deed clear : do on = 0 /   / show : when (on is 1) bright ; dark  ",
        )
        self.assertEqual(console.execute("show 0"), SWITCH_LINE[10:])
        console.execute(LAMP_LINE)
        console.execute(TOLAMP_LINE.replace(":", " :").replace("change  :", "change :"))
        self.assertEqual(console.execute("change 1"), TOLAMP_LINE[9:])
        self.assertEqual(led("edition : " + format_program(LAMP)).execute("show 0"), LAMP_LINE[10:])
        self.assertEqual(led("plan   way key  tries 2 window 1 stamp no fence 0.set 1.up ").execute("plan"), PLAN_LINE[5:])

    def test_plans(self):
        console = Console()
        for line in [PLAN_LINE, "plan way all tries 3 window ever stamp yes fence none", "plan way letter tries 1 window 12 stamp no fence 5.x"]:
            self.assertEqual([console.execute(line), console.execute("plan")], ["ok", line[5:]])

    def test_clear(self):
        console = opened("send k 0.set", "mark")
        self.assertEqual(console.execute("clear"), "ok")
        self.assertEqual(answers(console), answers(Console()))
        refused(self, NoHouse, "edition", console.execute, "edition")

    def test_spots_of_texts(self):
        for line, spot in [
            ("edition : ", (2, 1)), ("edition : register", (1, 9)), ("edition : deed", (1, 1)), ("edition :  x", (1, 2)),
            ("edition : register on 0 to 1 from 0 / deed", (2, 5)), ("edition : register on 0 to 1 from 0 /  / deed x y", (3, 8)),
            ("edition : register on 0 to 1 from 2", (1, 25)), ("edition : x / y", (1, 1)), ("edition : /", (1, 1)),
            ("edition : register on 0 to 1 from 0 / ", (3, 1)), ("edition : register on 0 to 1 from 0 /", (1, 27)),
        ]:
            refused(self, BadText, spot, Console().execute, line)
            refused(self, BadText, spot, led(*TELL).execute, line)
        for line, spot in [
            ("change : ", (2, 1)), ("change : x", (1, 1)), ("change : carry: none / play set: up / play set", (3, 6)),
            ("change : carry: when level", (1, 13)), ("change :  carry: none / ", (3, 1)),
        ]:
            refused(self, BadText, spot, led(*TELL).execute, line)
        for line, spot in [
            ("plan ", (1, 1)), ("plan  ", (1, 1)), ("plan way", (1, 4)), ("plan way key tries 4", (1, 15)), ("plan  way Key", (1, 6)),
            ("plan way key / tries", (1, 9)), ("plan letter", (1, 1)), (PLAN_LINE + " 1.up", (1, 52)),
        ]:
            refused(self, BadText, spot, Console().execute, line)


class AskingTest(unittest.TestCase):
    def test_whole_answers(self):
        console = led(*TELL)
        self.assertEqual(console.execute("desk 0"), "a dark 0; b bright 1")
        self.assertEqual(console.execute("desk 1"), "a dark 0; b dim 1; c bright 2")
        self.assertEqual([console.execute("right 1"), console.execute("fence"), console.execute("harm")[:4]], ["right", "never", "send"])
        console.execute("plan way all tries 1 window ever stamp no fence none")
        self.assertEqual([console.execute("fence"), console.execute("harm")], ["none", "none"])
        two = led("edition : register x 0 to 1 from 0 / register y 0 to 2 from 1 / deed go: do x = 1, y = y + 1 / show: a")
        self.assertEqual(two.execute("desk 0"), "a a 0,1; b a 1,2")

    def test_what_a_change_does_not_keep(self):
        for change, expected in [
            (TOLAMP_LINE, "right"), (TOLAMP_LINE.replace("up up", "up"), "deeds"), (TOLAMP_LINE.replace("bright as bright", "bright as dark"), "eyes"),
            (TOLAMP_LINE.replace("up up", "up").replace("bright as bright", "bright as dark"), "deeds"),
        ]:
            self.assertEqual(led(SWITCH_LINE, LAMP_LINE, change).execute("right 1"), expected)

    def test_against_the_functions(self):
        met = {}
        for seed in range(120):
            pick = random.Random(seed)
            programs = [made_program(3 * seed + k) for k in range(1 + seed % 3)]
            if seed % 4:
                programs = [pick.choice([SWITCH, LAMP]) for _ in range(1 + seed % 3)]
            changes = [made_told_change(seed + k, programs[k], programs[k + 1]) for k in range(len(programs) - 1)]
            plan = made_plan(pick, compiled_book([SWITCH, LAMP], [TOLAMP])[0])
            console = Console()
            for k, program in enumerate(programs):
                console.execute("edition : " + format_program(program).replace("\n", " / "))
                if k and (seed % 7 or k == 1):
                    console.execute("change : " + format_change(changes[k - 1]).replace("\n", " / "))
            shown = [change if seed % 7 or k == 0 else None for k, change in enumerate(changes)]
            # What is read is what the canonical text tells.
            programs = [parse_program(format_program(program)) for program in programs]
            console.execute("plan " + format_plan(plan))
            made = told(compiled_book, programs, shown)
            for line, expected in self.expected(programs, shown, plan, made):
                answer = told(console.execute, line)
                self.assertEqual(answer, expected, line)
                kind = answer[0].__name__ if isinstance(answer, tuple) else answer[:5]
                met[(line.split()[0], kind)] = met.get((line.split()[0], kind), 0) + 1
        for kind in [
            ("harm", "send "), ("harm", "none"), ("fence", "never"), ("fence", "none"), ("right", "right"), ("right", "deeds"),
            ("open", "ok"), ("open", "BadChange"), ("open", "BadEye"), ("change", "BadChange"),
            ("open", "BadFence"), ("harm", "BadFence"), ("fence", "BadFence"),
        ]:
            self.assertGreater(met.get(kind, 0), 0, (kind, met))

    def expected(self, programs, changes, plan, made):
        """The lines, and what they answer or raise, by the functions that they go back to."""
        def with_book(call):
            return made if len(made) > 2 or isinstance(made[0], type) else told(call, *made)

        def harm(book, values):
            events = harm_of(book, plan)
            return "none" if events is None else "; ".join(format_event(event) for event in events)

        def fence(book, values):
            deeds = least_fence(book, plan)
            return "never" if deeds is None else " ".join(f"{k}.{name}" for k, name in deeds) or "none"

        yield "programs", str(len(programs))
        yield "harm", with_book(harm)
        yield "fence", with_book(fence)
        yield "open", with_book(lambda book, values: House(book, plan) and "ok")
        for k, program in enumerate(programs):
            yield f"show {k}", format_program(program).replace("\n", " / ")
            yield f"desk {k}", with_book(lambda book, values: "; ".join(
                f"{one} {book.desks[k].sight(one)} {','.join(map(str, values[k][at]))}" for at, one in enumerate(book.desks[k].standings)
            ))
        for k, change in enumerate(changes, 1):
            text = (BadChange, None) if change is None else format_change(change).replace("\n", " / ")
            yield f"change {k}", text
            yield f"right {k}", with_book(lambda book, values: (
                "deeds" if not keeps_deeds(book, k - 1) else "right" if keeps_eyes(book, k - 1) else "eyes"
            ))

    def test_numbers_ahead_of_all_else(self):
        for console in (Console(), led(SWITCH_LINE), led(SWITCH_LINE, LAMP_LINE), opened(), led(*[LAMP_LINE] * 5)):
            many = int(console.execute("programs"))
            for word, least in [("show", 0), ("desk", 0), ("change", 1), ("right", 1)]:
                for number in [0, 1, 2, 5, 7, 10 ** 59, 10 ** 60 - 1]:
                    if not least <= number < many:
                        refused(self, BadNumber, number, console.execute, f"{word} {number}")
        for console in (Console(), led(SWITCH_LINE)):
            for text in ("x", "", TOLAMP_LINE[9:], "carry"):
                refused(self, BadNumber, 0, console.execute, "change : " + text)

    def test_fences_that_the_book_does_not_have(self):
        console = led(*TELL, "plan way key tries 1 window 1 stamp no fence 0.set 0.up 1.x")
        for line in ("open", "harm", "fence"):
            refused(self, BadFence, (0, "up"), console.execute, line)
        self.assertEqual(console.execute("right 1"), "right")
        self.assertEqual(console.execute("desk 0"), "a dark 0; b bright 1")

    def test_eyes_and_standings_that_are_refused(self):
        many = "edition : register x 0 to 8 from 0 / register y 0 to 1 from 0 / deed a: do x = x + 1 / deed b: do y = 1 / show: s"
        for line in ("open", "harm", "fence", "desk 0"):
            refused(self, TooMany, 9, led(many).execute, line)
        self.assertEqual(led(many).execute("show 0"), many[10:])
        console = led(
            "edition : register x 0 to 1 from 0 / deed a: none / show: when x is 1 s; t",
            "edition : register x 0 to 1 from 0 / deed a: do x = 1 / show: when x is 1 s; t",
            "change : carry: none / play a: a / see s as s / see t as t",
        )
        for line in ("open", "harm", "fence", "desk 1", "right 1"):
            self.assertEqual(told(console.execute, line), (BadEye, "s"))


class HouseTest(unittest.TestCase):
    def test_a_whole_story(self):
        console = opened()
        for line, answer in [
            ("edition", "0"), ("line", "none"), ("shelf", "none"), ("quiet", "yes"), ("log", "none"), ("mark", "0"),
            ("send k 0.set", "sent 0"), ("send ab 0.set", "sent 1"), ("line", "0 1"), ("quiet", "no"), ("mark", "1"),
            ("work stops", "played 0 done kept"), ("look k 0", "bright"), ("due k 0", "bright"), ("look ab 0", "dark"),
            ("due ab 0", "bright"), ("work fails", "failed 0 shelved"), ("work fails", "failed 1 shelved"), ("shelf", "0 1"),
            ("carry", "carried 1"), ("edition", "1"), ("replay done", "played 0 done noted"), ("replay fails", "failed 1 stays"),
            ("send k 1.down", "sent 2"), ("due k 0", "bright"), ("due k 1", "dim"), ("look k 1", "bright"), ("line", "2"), ("shelf", "1"),
            ("mark", "2"), ("undo 1", "ok"), ("line", "none"), ("mark", "2"), ("back 1", "ok"), ("edition", "0"), ("line", "0 1"),
            ("log", "send k 0.set => sent 0 / send ab 0.set => sent 1"), ("mark", "2"), ("undo 0", "ok"), ("undo 2", "ok"), ("log", "none"),
        ]:
            self.assertEqual(console.execute(line), answer, line)

    def test_against_a_house(self):
        book = compiled_book([SWITCH, LAMP], [TOLAMP])[0]
        for seed in range(30):
            pick = random.Random(seed)
            plan = made_plan(pick, book)
            console, house = led(*TELL, "plan " + format_plan(plan), "open"), House(book, plan)
            for event in random_events(pick, book, plan, 20).events:
                account = house.do(event)
                self.assertEqual(console.execute(format_event(event)), format_log([(event, account)]).split(" => ")[1])
                if pick.random() < 0.3:
                    self.check(console, house)
                if pick.random() < 0.1 and len(house.marks) < 6:
                    self.assertEqual(console.execute("mark"), str(house.mark()))
            self.check(console, house)
            for number in reversed(house.marks):
                house.back(number)
                self.assertEqual(console.execute(f"back {number}"), "ok")
                self.check(console, house)

    def check(self, console, house):
        self.assertEqual(console.execute("edition"), str(house.edition))
        self.assertEqual(console.execute("line"), " ".join(map(str, house.line)) or "none")
        self.assertEqual(console.execute("shelf"), " ".join(map(str, house.shelved)) or "none")
        self.assertEqual(console.execute("quiet"), "yes" if house.quiet else "no")
        self.assertEqual(console.execute("log"), format_log(house.log()).replace("\n", " / ") or "none")
        for key in ("k", "ab", "none"):
            for edition in range(house.edition + 1):
                self.assertEqual(console.execute(f"look {key} {edition}"), house.look(key, edition))
                self.assertEqual(console.execute(f"due {key} {edition}"), house.due_look(key, edition))

    def test_logs_read(self):
        console = opened("send k 0.set", "work done", "carry", "mark")
        log = console.execute("log")
        self.assertEqual(log, "send k 0.set => sent 0 / work done => played 0 done noted / carry => carried 1")
        self.assertEqual([console.execute("read none"), console.execute("log"), console.execute("edition")], ["ok", "none", "0"])
        refused(self, BadMark, 0, console.execute, "back 0")
        self.assertEqual([console.execute("read " + log), console.execute("log"), console.execute("edition")], ["ok", log, "1"])
        self.assertEqual(console.execute("read   " + log.replace(" => ", "   =>  ") + "  "), "ok")
        self.assertEqual(console.execute("log"), log)
        for line, spot in [
            ("read x", (1, 1)), ("read " + log + " / ", (4, 1)), ("read carry =>", (1, 9)), ("read " + log + " / carry", (4, 6)),
            ("read carry => carried 1 / work  done => played 0 done yes", (2, 29)), ("read none none", (1, 1)),
        ]:
            refused(self, BadText, spot, console.execute, line)
        for line, position in [
            ("read carry => carried 0", 0), ("read " + log + " / carry => carried 2", 3), ("read " + log.replace("done noted", "left noted"), 1),
            ("read send k 1.up => sent 0", 0),
        ]:
            refused(self, BadLog, position, console.execute, line)
        self.assertEqual(console.execute("log"), log)

    def test_refusals(self):
        console = opened("send k 0.set", "mark")
        before = answers(console)
        for error, kept, line in [
            (NotNow, ("replay", "done"), "replay done"), (NotNow, ("send", "k", (1, "up")), "send k 1.up"),
            (NotNow, ("send", "k", (0, "up")), "send k 0.up"), (BadMark, 1, "back 1"), (TooFar, 1, "undo 2"),
            (BadEdition, 1, "look k 1"), (BadEdition, 10 ** 60 - 1, "due k " + "9" * 60), (BadName, "K", "look K 0"), (BadName, "k1", "due k1 9"),
            (BadName, "abcdefghi", "look abcdefghi 0"), (BadText, (1, 6), "send K 0.set"), (BadText, (1, 8), "send k set"),
            (BadText, (1, 6), "work it"), (BadText, (1, 8), "replay Done"), (BadText, (1, 8), "send k 00.set"), (BadText, (1, 5), "work "),
            (BadText, (1, 7), "send k "),
        ]:
            self.assertEqual(told(console.execute, line), (error, kept))
        self.assertEqual(answers(console), before)
        for _ in range(5):
            console.execute("mark")
        refused(self, TooMany, 6, console.execute, "mark")

    def test_what_takes_the_house_away(self):
        for line in [SWITCH_LINE, TOLAMP_LINE, PLAN_LINE, "clear"]:
            console = opened("send k 0.set")
            self.assertEqual(console.execute(line), "ok")
            for other in HOUSE_LINES:
                refused(self, NoHouse, other, console.execute, other)
        for line in FREE_LINES + ["carry", "read none", "mark", "undo 1"]:
            console = opened("send k 0.set")
            console.execute(line)
            self.assertEqual(console.execute("quiet") in ("yes", "no"), True)
        for line in [
            "edition : x", "change : x", "plan x", "show 7", "change 7", "nosuch", "plan", "change 1", "edition :", "undo 9", "read x", "desk 9",
        ]:
            console = opened("send k 0.set")
            told(console.execute, line)
            self.assertEqual(console.execute("line"), "0", line)

    def test_opened_anew(self):
        console = opened("send k 0.set", "mark")
        self.assertEqual([console.execute("open"), console.execute("log")], ["ok", "none"])
        refused(self, BadMark, 0, console.execute, "back 0")
        console = opened()
        console.execute("plan way key tries 1 window none stamp no fence 3.x")
        refused(self, BadFence, (3, "x"), console.execute, "open")
        refused(self, NoHouse, "log", console.execute, "log")

    def test_the_plan_of_now(self):
        console = led(*TELL, "plan way letter tries 2 window ever stamp no fence 0.set", "open", "send k 0.set")
        self.assertEqual(console.execute("work fails"), "failed 0 stays")
        refused(self, NotNow, ("carry",), console.execute, "carry")
        self.assertEqual([console.execute("work stops"), console.execute("work done")], ["played 0 done kept", "played 0 left noted"])


class LinesTest(unittest.TestCase):
    INVALID = [
        "", " ", "  ", "nosuch", "Programs", "programs ", " programs", "programs 0", "show", "show ", "show 0 ", "show  0", "show 00", "show 01",
        "show -1", "show x", "show 0 0", "show 1.0", "show " + "9" * 61, "show 1" + "0" * 60, "show +1", "show 1_0", "change", "change ",
        "change x", "change 0 1", "change :", "change 1 ", "change: x", "change :x", "changes 1", "desk", "desk -0", "desk 0 0", "desk a", "right",
        "right x", "right 1 2", "harm 1", "harm ", " harm", "fence 0", "fence none", "open k", "open ", "clear all", "clear ", "edition :",
        "edition: x", "edition 0", "edition  : x", "edition :x", "editions", "edition ", " edition", "line 0", "line ", "shelf 0", "shelves",
        "quiet yes", "quiet ", "mark 0", "mark ", "back", "back ", "back x", "back 0 0", "back 00", "back -1", "undo", "undo x", "undo 1 1",
        "undo 01", "undo  1", "look", "look k", "look 0", "look k 0 0", "look  0", "look k  0", "look k ", "look k x", "look k 00", "look k -1",
        "look  k 0", "due", "due k", "due  0", "due k x", "due k 0 ", "log 0", "log ", "logs", "read", "reads none", "plans", "planway", "Plan",
        "carry 1", "carry ", "carry => carried 1", "send", "send k", "send k 0.set 1", "send  0.set", "send  k 0.set", "send k  0.set",
        "send k 0.set ", " send k 0.set", "work", "work done done", "work  done", "work done ", "replay", "replay done 0", "replay done => x",
        "\n", "programs\n", "show\n0", "carry\n", "show 0\n", "sent 0", "none", "ok", "0", "edition\n: x", "plan\n", "look\tk 0", "look k\t0",
    ]

    def test_lines_that_are_none(self):
        for console in (Console(), led(SWITCH_LINE), opened("send k 0.set", "mark")):
            before = answers(console)
            for line in self.INVALID:
                refused(self, InvalidCommand, line, console.execute, line)
            for value in any_values():
                refused(self, InvalidCommand, value, console.execute, value)
            self.assertEqual(answers(console), before)

    def test_no_house(self):
        for console in (Console(), led(*TELL), led(*TELL, PLAN_LINE)):
            before = answers(console)
            for line in HOUSE_LINES:
                refused(self, NoHouse, line, console.execute, line)
            self.assertEqual(answers(console), before)

    def test_keys_of_any_words(self):
        console = opened()
        for key in ("K", "0", ":", "=>", "k.1", "\t", "abcdefghi", "none\n"):
            self.assertEqual(told(console.execute, f"look {key} 0"), (BadName, key))
            self.assertEqual(told(console.execute, f"due {key} 7"), (BadName, key))
        self.assertEqual([console.execute("look carry 0"), console.execute("due none 0")], ["dark", "dark"])

    def test_refusals_keep_all(self):
        for lines in ([], TELL[:1], TELL[:2], TELL, TELL + [PLAN_LINE, "open", "send k 0.set"]):
            console = led(*lines)
            before = answers(console)
            for line in [
                "edition : x", "edition : ", "change : x", "change : ", "plan x", "plan ", "show 9", "change 9", "desk 9", "right 0", "nosuch",
                "read x", "read carry => carried 0", "replay done", "send K 0.set", "back 3", "undo 99", "look K 0", "due k 9",
                "edition : register on 0 to 1 from 0 / deed go: none / show: register", "plan way key tries 1 window 0 stamp no fence none",
            ]:
                self.assertIsInstance(told(console.execute, line), tuple, line)
                self.assertEqual(answers(console), before, line)

    def test_each_answer_is_a_string(self):
        console = opened("send k 0.set")
        for line in FREE_LINES + ["edition", "line", "shelf", "quiet", "log", "look k 0", "due k 0", "mark", "back 0", "work done", "carry", "undo 1"]:
            self.assertIsInstance(console.execute(line), str)

    def test_the_texts_that_are_told_are_read(self):
        console = opened()
        other = led(*["edition : " + console.execute(f"show {k}") for k in (0, 1)], "change : " + console.execute("change 1"))
        other.execute("plan " + console.execute("plan"))
        self.assertEqual(answers(other)[:10], answers(console)[:10])
        self.assertEqual(parse_plan(console.execute("plan")), Plan("letter"))
        change = parse_change(SWITCH, LAMP, console.execute("change 1").replace(" / ", "\n"))
        self.assertEqual(change, TOLAMP)


if __name__ == "__main__":
    unittest.main()
