import random
import unittest

from lateeditions.errors import BadText
from lateeditions.houses import House
from lateeditions.plans import Plan
from lateeditions.texts import (
    format_event, format_log, format_plan, format_row, parse_event, parse_log, parse_plan, parse_row,
)
from support import any_values, made_plan, random_events, refused, right_book

PARSERS = [parse_row, parse_event, parse_plan, parse_log]
BIG = 10 ** 59
HUGE = str(10 ** 60)
DEEDS = [(0, "a"), (0, "abcdefgh"), (1, "up"), (7, "carry"), (10, "none"), (BIG, "z"), (10 ** 60 - 1, "send")]
# Tokens that are no DEED: of each, what is wrong stands at its first character.
NOT_DEEDS = [
    "0", "a", "0.", ".a", ".", "0.A", "0.abcdefghi", "00.a", "01.a", "-1.a", "+1.a", "1_0.a", "0.a.b", "0..a", "0.a1", "0.a_", "0,a",
    HUGE + ".a", "x.a", "0.\ta", "\t0.a", "0.a\n", "\n0.a", "0:a", "(0,", "1e3.a", "0x1.a", "carry.a", "0.carry.", "Carry", "None",
]


def spread(pick, text):
    """The text with more spaces between its tokens and at its ends."""
    tokens = text.split(" ")
    return "".join(" " * pick.randint(0 if k == 0 else 1, 4) + token for k, token in enumerate(tokens)) + " " * pick.randint(0, 3)


def column_of(text, position):
    """The column of a token of a text, or that of its end."""
    column, tokens = 1, []
    for word in text.split(" "):
        if word:
            tokens.append(column)
        column += len(word) + 1
    return (tokens + [len(text.rstrip(" ")) + 1])[position]


class Spots(unittest.TestCase):
    def refuse(self, parse, text, position, number=1):
        """Holds that a text is refused at its token of this position, its end being one."""
        line = text.split("\n")[number - 1] if parse is parse_log else text
        refused(self, BadText, (number, column_of(line, position)), parse, text)

    def refuse_around(self, parse, tokens, wrong, more):
        """Texts with one token wrong, one too few or one too many, also with more spaces."""
        pick = random.Random(len(tokens))
        parse(" ".join(tokens))
        for k, bad in enumerate(wrong):
            for token in bad + ["=>", "\t", "none.", "x\ny"]:
                for text in (" ".join(tokens[:k] + [token] + tokens[k + 1:]), " ".join(tokens[:k] + [token])):
                    self.refuse(parse, text, k)
                    self.refuse(parse, spread(pick, text), k)
            self.refuse(parse, " ".join(tokens[:k]), k)
            self.refuse(parse, " ".join(tokens[:k]) + "   ", k)
        for token in more:
            self.refuse(parse, spread(pick, " ".join(tokens + [token])), len(tokens))


class RowTest(Spots):
    def test_there_and_back(self):
        for row, text in [
            ([], "none"), (["carry"], "carry"), ([(0, "set"), "carry", (1, "up")], "0.set carry 1.up"),
            ([(0, "carry"), "carry", (0, "none")], "0.carry carry 0.none"), (DEEDS, " ".join(f"{k}.{name}" for k, name in DEEDS)),
        ]:
            self.assertEqual([format_row(row=row), parse_row(text=text)], [text, row])
        for seed in range(60):
            pick = random.Random(seed)
            row = [pick.choice(DEEDS + ["carry"]) for _ in range(pick.randint(0, 12))]
            self.assertEqual(parse_row(format_row(row)), row)
            self.assertEqual(parse_row(spread(pick, format_row(row))), row)
        self.assertEqual([parse_row("  none "), parse_row("carry   0.a  ")], [[], ["carry", (0, "a")]])

    def test_kinds(self):
        told = parse_row("10.up carry")
        self.assertIsInstance(told, list)
        self.assertIs(told[0].__class__, tuple)
        self.assertIs(told[0][0].__class__, int)

    def test_spots(self):
        for token in NOT_DEEDS:
            for ahead in (["carry"], ["0.a"], ["0.a", "carry", "1.b"]):
                self.refuse(parse_row, " ".join(ahead + [token]), len(ahead))
                self.refuse(parse_row, "  " + "   ".join(ahead + [token, "none", "?"]), len(ahead))
            self.refuse(parse_row, token, 0)
        for text, position in [
            ("", 0), ("   ", 0), ("none none", 1), ("none carry", 1), ("carry none", 1), ("0.a none", 1), ("none 0.a", 1), ("none.", 0),
            ("carry\ncarry", 0), ("\n", 0), ("carry \n", 1), ("0.a\t1.b", 0), ("carry, 0.a", 0),
        ]:
            self.refuse(parse_row, text, position)
        refused(self, BadText, (1, 1), parse_row, "   ")
        refused(self, BadText, (1, 6), parse_row, "none carry")
        refused(self, BadText, (1, 11), parse_row, "  carry   0.A ")


class EventTest(Spots):
    EVENTS = [("carry",)] + [(word, how) for word in ("work", "replay") for how in ("done", "stops", "fails")] + [
        ("send", key, deed) for key in ("k", "abcdefgh", "none", "carry", "send") for deed in DEEDS
    ]

    def test_there_and_back(self):
        pick = random.Random(1)
        for event in self.EVENTS:
            text = " ".join(part if isinstance(part, str) else f"{part[0]}.{part[1]}" for part in event)
            self.assertEqual([format_event(event=event), parse_event(text=text)], [text, event])
            self.assertEqual(parse_event(spread(pick, text)), event)
            self.assertIs(parse_event(text).__class__, tuple)

    def test_spots(self):
        words = ["", "Send", "sent", "done", "carry.", "play", "0.a", "works"]
        self.refuse_around(parse_event, ["send", "k", "0.a"], [
            words[1:], ["K", "abcdefghi", "k1", "k-", "0.a"], NOT_DEEDS + ["carry", "none"],
        ], ["k", "0.a", "done", "send"])
        for word in ("work", "replay"):
            self.refuse_around(parse_event, [word, "done"], [words[1:], ["Done", "do", "dones", "0.a", "k", "fail", "none"]], ["done", "k"])
        self.refuse_around(parse_event, ["carry"], [words[1:]], ["carry", "done", "0.a"])
        for text in ("", "  "):
            refused(self, BadText, (1, 1), parse_event, text)
        refused(self, BadText, (1, 7), parse_event, "send k")
        refused(self, BadText, (1, 7), parse_event, "send k    ")
        refused(self, BadText, (1, 7), parse_event, "work  done2")
        refused(self, BadText, (1, 1), parse_event, "carry\n")
        refused(self, BadText, (1, 7), parse_event, "carry \n")


class PlanTest(Spots):
    def plans(self):
        for way in ("letter", "key", "all"):
            for tries in (1, 2, 3):
                for window in (None, *range(1, 13), "ever"):
                    for stamp in (False, True):
                        fence = sorted(random.Random(f"{way}{tries}{window}").sample(DEEDS, tries))
                        yield Plan(way, tries=tries, window=window, stamp=stamp, fence=fence if stamp else [])

    def test_there_and_back(self):
        pick = random.Random(2)
        for plan in self.plans():
            window = "none" if plan.window is None else str(plan.window)
            fence = " ".join(f"{k}.{name}" for k, name in plan.fence) or "none"
            text = f"way {plan.way} tries {plan.tries} window {window} stamp {'yes' if plan.stamp else 'no'} fence {fence}"
            self.assertEqual(format_plan(plan=plan), text)
            self.assertEqual(parse_plan(text=text), plan)
            self.assertEqual(parse_plan(spread(pick, text)), plan)
        self.assertEqual(format_plan(Plan("letter")), "way letter tries 1 window none stamp no fence none")
        self.assertIsInstance(parse_plan("way letter tries 1 window none stamp no fence none"), Plan)

    def test_spots(self):
        wrong = [
            ["Way", "key", "ways"], ["Key", "keys", "none", "1", "way"], ["try", "1"], ["0", "4", "01", "-1", "1.", "none", "one", "10", HUGE],
            ["windows", "1"], ["0", "13", "01", "-1", "Ever", "evers", "99", "1.0", HUGE, "yes"], ["stamps", "yes"],
            ["Yes", "true", "None", "1", "none", "ever"], ["fences", "none"],
        ]
        tokens = "way key tries 2 window 7 stamp yes fence".split()
        self.refuse_around(parse_plan, tokens + ["none"], wrong + [[token for token in NOT_DEEDS if token != "none"]], ["none", "0.a"])
        for token in NOT_DEEDS + ["none", "0.b", "0.a"]:
            for ahead in (["0.b"], ["0.a", "0.b"]):
                self.refuse(parse_plan, " ".join(tokens + ahead + [token]), len(tokens + ahead))
                self.refuse(parse_plan, " ".join(tokens + ahead + [token, "7.x"]), len(tokens + ahead))

    def test_fences_that_do_not_ascend(self):
        head = "way all tries 1 window none stamp no fence "
        for fence, position in [
            ("0.a 0.a", 1), ("0.b 0.a", 1), ("1.a 0.b", 1), ("0.a 0.b 0.b", 2), ("0.a 1.a 0.z 5.x", 2), ("0.a 10.a 9.a", 2),
            ("0.a none", 1), ("none none", 1), ("0.a 0.b 0.c 0.bb", 3), ("0.a 0.aa 0.b 0.ab", 3), ("2.a 1.b 0.c", 1),
        ]:
            self.refuse(parse_plan, head + fence, 9 + position)
        self.assertEqual(parse_plan(head + "0.a 0.aa 0.b 9.a 10.a").fence, ((0, "a"), (0, "aa"), (0, "b"), (9, "a"), (10, "a")))

    def test_integers_of_sixty_digits(self):
        head = "way all tries 1 window none stamp no fence "
        self.assertEqual(parse_plan(head + "9" * 60 + ".a").fence, ((10 ** 60 - 1, "a"),))
        self.refuse(parse_plan, head + "9" * 61 + ".a", 9)


ACCOUNTS = [
    (("sent", 0), "sent 0"), (("sent", BIG), f"sent {BIG}"), (("played", 3, "done", True), "played 3 done noted"),
    (("played", 0, "left", False), "played 0 left kept"), (("played", 12, "done", False), "played 12 done kept"),
    (("played", 1, "left", True), "played 1 left noted"), (("failed", 2, "stays"), "failed 2 stays"),
    (("failed", 10 ** 60 - 1, "shelved"), "failed " + "9" * 60 + " shelved"), (("carried", 1), "carried 1"),
]


class LogTest(Spots):
    def entries(self):
        for k, (account, text) in enumerate(ACCOUNTS):
            event = EventTest.EVENTS[3 * k]
            yield (event, account), f"{format_event(event)} => {text}"

    def test_there_and_back(self):
        pick = random.Random(3)
        entries = list(self.entries())
        for many in range(len(entries) + 1):
            log = [entry for entry, _ in entries[:many]]
            text = "\n".join(line for _, line in entries[:many])
            self.assertEqual([format_log(log=log), parse_log(text=text)], [text, log])
            self.assertEqual(parse_log("\n".join(spread(pick, line) for line in text.split("\n"))), log)
        told = parse_log("work done => played 1 done noted\nwork stops => played 0 left kept")
        self.assertIs(told[0][1][3], True)
        self.assertIs(told[1][1][3], False)
        self.assertIs(told[1][1][1].__class__, int)
        self.assertIs(told[0].__class__, tuple)

    def test_logs_of_houses(self):
        for seed in range(30):
            pick = random.Random(seed)
            book = right_book(seed, 1 + seed % 3)
            plan = made_plan(pick, book)
            house = House(book, plan)
            for event in random_events(pick, book, plan, 15).events:
                house.do(event)
            self.assertEqual(parse_log(format_log(house.log())), house.log())
            self.assertEqual(len(format_log(house.log()).split("\n")), 15)

    def test_the_empty_log(self):
        self.assertEqual([format_log([]), parse_log("")], ["", []])
        for text in ["", " ", "\n", "   \n \n\n", "\n\n\n", "  "]:
            self.assertEqual(parse_log(text), [])

    def test_lines_without_tokens(self):
        right = "carry => carried 1"
        for text, number in [
            (f"{right}\n", 2), (f"\n{right}", 1), (f"{right}\n\n{right}", 2), (f"   \n{right}", 1), (f"{right}\n   \n", 2),
            (f"{right}\n{right}\n ", 3),
        ]:
            refused(self, BadText, (number, 1), parse_log, text)

    def test_spots(self):
        marks = [["sent", "0", "->", "=", "==>", "carry", "done"]]
        number = [["00", "01", "-1", "+1", "x", "1.0", "none", HUGE, "True", "0.a", "1_0"]]
        accounts = [["Sent", "send", "carry", "noted", "0", "work"]]
        send, work = [["sent"], ["K"], NOT_DEEDS], [["sent"], ["Done", "k"]]
        self.refuse_around(parse_log, "send k 0.a => sent 0".split(), send + marks + accounts + number, ["0", "done", "=>"])
        for event in ("work done", "replay stops"):
            for word in ("done", "left"):
                for end in ("noted", "kept"):
                    tokens = f"{event} => played 3 {word} {end}".split()
                    self.refuse_around(parse_log, tokens, work + marks + accounts + number + [
                        ["Done", "stays", "fails", "noted"], ["True", "done", "Kept", "not", "1"],
                    ], ["kept", "0"])
            for word in ("stays", "shelved"):
                tokens = f"{event} => failed 0 {word}".split()
                self.refuse_around(parse_log, tokens, work + marks + accounts + number + [["done", "Stays", "left", "kept"]], ["noted"])
        self.refuse_around(parse_log, "carry => carried 2".split(), [["carried"]] + marks + accounts + number, ["2", "noted"])

    def refuse_around(self, parse, tokens, wrong, more):
        """As for other texts, but a newline parts lines here, and lines may stand ahead and behind."""
        pick = random.Random(len(tokens))
        ahead = ["", "carry => carried 1\n", "work  done => played 0 done  kept\n carry => carried 2 \n"]
        parse_log(" ".join(tokens))
        for k, bad in enumerate(wrong):
            for token in bad + ["\t", "none.", "?"]:
                if "\n" in token:
                    continue
                text = spread(pick, " ".join(tokens[:k] + [token] + tokens[k + 1:]))
                for lines in ahead:
                    self.refuse(parse, lines + text, k, lines.count("\n") + 1)
                    self.refuse(parse, lines + text + "\n?", k, lines.count("\n") + 1)
            if k:
                self.refuse(parse, " ".join(tokens[:k]) + "  ", k)
                self.refuse(parse, "carry => carried 1\n" + " ".join(tokens[:k]) + "  \ncarry", k, 2)
        for token in more:
            self.refuse(parse, " ".join(tokens + [token]), len(tokens))


class AnyTextTest(Spots):
    def test_no_strings(self):
        for parse in PARSERS:
            for value in any_values():
                if not isinstance(value, str):
                    refused(self, BadText, (1, 1), parse, value)
                elif parse is not parse_log or value.strip(" \n"):
                    with self.assertRaises(BadText):
                        parse(value)

    def test_texts_of_another_kind(self):
        texts = ["none", "carry", "0.a carry", "send k 0.a", "work done", format_plan(Plan("key")), "carry => carried 1"]
        reads = {parse_row: [0, 1, 2], parse_event: [1, 3, 4], parse_plan: [5], parse_log: [6]}
        for parse, right in reads.items():
            for k, text in enumerate(texts):
                if k in right:
                    parse(text)
                else:
                    with self.assertRaises(BadText):
                        parse(text)

    def test_random_texts(self):
        # Whatever is read at all is what its canonical text tells.
        words = "none carry 0.a 1.b send k work done => sent 0 failed stays way key tries 1 window ever stamp yes fence no".split()
        pairs = [(parse_row, format_row), (parse_event, format_event), (parse_plan, format_plan), (parse_log, format_log)]
        read = 0
        for seed in range(3000):
            pick = random.Random(seed)
            text = " ".join(pick.choice(words) for _ in range(pick.choice([1, 2, 3, 6])))
            for parse, form in pairs:
                try:
                    told = parse(text)
                except BadText as error:
                    line, column = error.spot
                    self.assertTrue(line == 1 and 1 <= column <= len(text) + 1)
                    continue
                self.assertEqual(form(told), text)
                read += 1
        self.assertGreater(read, 100)


if __name__ == "__main__":
    unittest.main()
