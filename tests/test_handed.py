import random
import unittest

from lateeditions.errors import BadEvent, BadLetter, BadName, BadSeat, NotNow, TooFar
from lateeditions.handed import Handing, harmed, harms, passed
from lateeditions.plans import Plan
from lateeditions.rowsofdesks import Chain
from chains import HOW, WAYS, ChainModel, bell, chain_events, counter, made_chain, random_handing, settle
from support import any_values, lamp, refused

LATE = [
    ("send", "k", "press"), ("send", "k", "cut"), ("work", 0, "fails"), ("work", 0, "done"), ("replay", 0, "done"),
    ("work", 1, "done"), ("work", 1, "done"),
]


def two(way="letter", other="key", **more):
    return Chain([lamp(), lamp()], [Plan(way), Plan(other, **more)])


def not_events():
    return any_values() + [
        ("send", "k"), ("send", "k", "burn"), ("send", "K", "press"), ("send", "k", ("press",)), ("send", 0, "press"),
        ("send", "k", (0, "press")), ("send", "k", "press", 0), ["send", "k", "press"], ("send", "", "press"), ("send", "k", None),
        ("send", "abcdefghi", "press"), ("work", "done"), ("work", 2, "done"), ("work", -1, "done"), ("work", True, "done"),
        ("work", False, "done"), ("work", 0), ("work", 0, "Done"), ("work", 0, None), ["work", 0, "done"], ("work", "0", "done"),
        ("work", 0, "done", 0), ("replay", 0), ("replay", 7, "done"), ("replay", None, "fails"), ("carry",), ("carry", 0, "done"),
        ("works", 0, "done"), (("work",), 0, "done"), (None, 0, "done"), ("work", (0,), "done"), ("work", 0, ["done"]), "send",
        (0, "work", "done"), ("work", 10 ** 59, "done"),
    ]


class HandingTest(unittest.TestCase):
    def check(self, handing, model):
        self.assertEqual([handing.events, handing.quiet, handing.wrong()], [model.events, model.quiet(), model.wrong()])
        for seat in range(len(model.desks)):
            self.assertEqual(handing.line_at(seat), [copy[0] for copy in model.at(seat, "line")])
            self.assertEqual(handing.shelf_at(seat), [copy[0] for copy in model.at(seat, "shelf")])
            for key in ("k", "ab", "none"):
                self.assertEqual(handing.standing_at(seat, key), model.standing(seat, key))
                self.assertEqual(handing.due_at(seat, key), model.due(seat, key))
            for number, (key, _) in enumerate(model.letters):
                self.assertEqual(handing.times_at(seat, number), model.done(seat, key).count(number))
        for number, letter in enumerate(model.letters):
            self.assertEqual(handing.letter(number), letter)

    def test_against_the_words(self):
        accounts, copies = [], 0
        for seed in range(120):
            pick = random.Random(seed)
            chain = made_chain(seed)
            events = random_handing(pick, chain, 30).events
            handing, model = Handing(chain), ChainModel(chain)
            for position, event in enumerate(events):
                if position % 5 == 0:
                    for other in chain_events(chain, ["k", "z"]):
                        self.assertIs(handing.can(other), model.can(other))
                    self.check(handing, model)
                told = handing.do(event)
                self.assertEqual(told, model.do(event))
                accounts.append((told[0],) + told[2:])
                for seat in range(len(chain)):
                    row = handing.line_at(seat) + handing.shelf_at(seat)
                    copies += len(row) > len(set(row))
            self.check(handing, model)
        for kind in [
            ("sent",), ("played", "done", True), ("played", "done", False), ("played", "left", True), ("played", "left", False),
            ("failed", "stays"), ("failed", "shelved"),
        ]:
            self.assertGreater(accounts.count(kind), 40, kind)
        # Copies of one letter lay several times at a seat.
        self.assertGreater(copies, 100)

    def test_no_events(self):
        full = passed(two(), LATE[:3])
        for handing in (Handing(two("all", "key")), full):
            for value in not_events():
                self.assertIs(handing.can(value), False)
                refused(self, NotNow, value, handing.do, value)
        self.assertEqual(full.events, LATE[:3])
        refused(self, NotNow, (event := ("work", 1, "done")), full.do, event)
        refused(self, NotNow, (event := ("replay", 1, "done")), full.do, event)

    def test_each_way_and_the_shelf_of_a_seat_alone(self):
        for way, other in [(one, two) for one in WAYS for two in WAYS]:
            handing = passed(two(way, other), [("send", "k", "press"), ("send", "k", "cut"), ("send", "m", "cut"), ("work", 0, "fails")])
            expected = {"letter": 1, "key": 2, "all": None}[way]
            self.assertIs(handing.can(event=("work", 0, "done")), expected is not None)
            if expected is not None:
                self.assertEqual(handing.do(event=("work", 0, "done")), ("played", expected, "done", True))
                # What is shelved at seat 0 holds nothing at seat 1.
                self.assertEqual(handing.do(("work", 1, "stops")), ("played", expected, "done", False))

    def test_number_of_tries_of_each_seat_and_copy(self):
        chain = Chain([lamp(), lamp()], [Plan("letter", tries=2), Plan("letter", tries=3)])
        handing = passed(chain, [("send", "k", "press"), ("work", 0, "stops"), ("work", 0, "stops")])
        self.assertEqual([handing.line_at(0), handing.line_at(1)], [[0], [0, 0]])
        told = [handing.do(event) for event in [("work", 1, "fails"), ("work", 0, "fails"), ("work", 1, "fails"), ("work", 1, "fails")]]
        self.assertEqual(told, [("failed", 0, "stays")] * 3 + [("failed", 0, "shelved")])
        self.assertEqual([handing.line_at(1), handing.shelf_at(1)], [[0], [0]])
        # The other copy has not failed yet, nor more than once at seat 0.
        told = [handing.do(("work", 1, "fails")) for _ in range(3)] + [handing.do(("work", 0, "fails"))]
        self.assertEqual(told, [("failed", 0, "stays")] * 2 + [("failed", 0, "shelved")] * 2)
        self.assertEqual([handing.shelf_at(0), handing.line_at(1), handing.shelf_at(1)], [[0], [], [0, 0]])
        self.assertEqual([handing.do(("replay", 1, "fails")), handing.do(("replay", 1, "done"))], [("failed", 0, "stays"), ("played", 0, "done", True)])
        self.assertEqual(handing.shelf_at(1), [0])

    def test_guards_leave_out_and_hand_on(self):
        for plan in [Plan("letter", window="ever"), Plan("letter", window=1), Plan("letter", stamp=True)]:
            handing = passed(Chain([lamp(), counter(5), lamp()], [plan, Plan("key"), Plan("key")]), [
                ("send", "k", "press"), ("work", 0, "stops"), ("work", 0, "stops"), ("work", 0, "done"),
            ])
            self.assertEqual([handing.times_at(0, 0), handing.line_at(1)], [1, [0, 0, 0]])
            for _ in range(3):
                handing.do(("work", 1, "done"))
            self.assertEqual([handing.times_at(1, 0), handing.line_at(2), handing.standing_at(1, "k")], [3, [0, 0, 0], "d"])
        # The guards of a later seat go by the number, for all copies.
        handing = passed(Chain([lamp(), lamp()], [Plan("letter"), Plan("letter", window=2)]), [
            ("send", "k", "press"), ("work", 0, "stops"), ("work", 0, "done"), ("work", 1, "done"),
        ])
        self.assertEqual(handing.do(("work", 1, "done")), ("played", 0, "left", True))

    def test_each_window_at_a_later_seat(self):
        for window in [None, 1, 2, 3, 12, "ever"]:
            for between in range(5):
                chain = Chain([lamp(), counter(9)], [Plan("letter"), Plan("key", window=window)])
                events = [("send", "k", "press"), ("work", 0, "stops"), ("work", 0, "fails"), ("work", 1, "done")]
                events += [("send", "k", "cut"), ("work", 0, "done"), ("work", 1, "done")] * between
                events += [("send", "m", "cut"), ("work", 0, "done"), ("work", 1, "done"), ("replay", 0, "done")]
                handing = passed(chain, events)
                left = window == "ever" or window is not None and between < window
                self.assertEqual(handing.do(("work", 1, "done")), ("played", 0, "left" if left else "done", True))
                self.assertEqual(handing.times_at(1, 0), 1 if left else 2)

    def test_stamps_at_a_later_seat(self):
        chain = Chain([lamp(), lamp()], [Plan("letter"), Plan("key", stamp=True)])
        handing = passed(chain, LATE[:6])
        self.assertEqual(handing.do(LATE[6]), ("played", 0, "left", True))
        self.assertEqual([handing.standing_at(1, "k"), handing.due_at(1, "k"), handing.times_at(1, 0)], ["off", "off", 0])

    def test_refusals(self):
        handing = passed(two(), LATE[:4])
        for value in any_values() + [2, -1, True, False, "0", 0.0]:
            if value.__class__ is not int or value not in (0, 1):
                for call in (handing.line_at, handing.shelf_at):
                    refused(self, BadSeat, value, call, value)
                for more in ("k", None, 9, value):
                    for call in (handing.standing_at, handing.due_at, handing.times_at):
                        refused(self, BadSeat, value, call, value, more)
                refused(self, BadLetter, value, handing.letter, value)
                refused(self, BadLetter, value, handing.times_at, 1, value)
        for value in any_values() + ["K", "a b", "abcdefghi", ("k",)]:
            if value != "nosuch":
                refused(self, BadName, value, handing.standing_at, 0, value)
                refused(self, BadName, value, handing.due_at, 1, value)
        refused(self, BadLetter, 0, Handing(two()).letter, 0)
        self.check(handing, self.modelled(two(), LATE[:4]))

    def modelled(self, chain, events):
        model = ChainModel(chain)
        for event in events:
            model.do(event)
        return model

    def test_at_first(self):
        chain = Chain([lamp(), bell()], [Plan("key"), Plan("all")])
        handing = Handing(chain=chain)
        self.assertEqual([handing.chain, handing.quiet, handing.events, handing.wrong()], [chain, True, [], []])
        self.assertEqual([handing.standing_at(seat=1, key="k"), handing.due_at(seat=0, key="z")], ["no", "off"])
        self.assertEqual([handing.line_at(seat=0), handing.shelf_at(seat=1)], [[], []])
        self.assertIs(handing.quiet, True)
        handing.do(("send", "k", "press"))
        self.assertIs(handing.quiet, False)
        self.assertEqual([handing.letter(number=0), handing.times_at(seat=0, number=0)], [("k", "press"), 0])

    def test_wrong_quiet_or_not(self):
        handing = passed(two(), LATE[:1])
        self.assertEqual(handing.wrong(), [(0, "k"), (1, "k")])
        handing = passed(two(), [("send", "z", "press"), ("send", "a", "press"), ("send", "m", "cut"), ("work", 0, "done")])
        self.assertEqual(handing.wrong(), [(0, "a"), (1, "a"), (1, "z")])
        keys = ["q", "ab", "z", "b", "m", "carry", "a", "k"]
        handing = passed(two(), [("send", key, "press") for key in keys])
        self.assertEqual(handing.wrong(), [(seat, key) for seat in (0, 1) for key in sorted(keys)])

    def test_lists_are_new(self):
        handing = passed(two(), LATE[:3])
        for _ in range(2):
            self.assertEqual([handing.line_at(0), handing.shelf_at(0), len(handing.events)], [[1], [0], 3])
            handing.line_at(0).clear()
            handing.shelf_at(0).append(4)
            handing.events.clear()
            handing.wrong().clear()

    def test_undone_and_forked(self):
        for seed in range(20):
            pick = random.Random(seed)
            chain = made_chain(seed)
            events = random_handing(pick, chain, 12).events
            for many in range(13):
                handing = passed(chain, events)
                other = handing.fork()
                self.assertTrue(handing == other and handing is not other)
                self.assertIsNone(handing.undo(number=many))
                self.check(handing, self.modelled(chain, events[:12 - many]))
                self.assertEqual(handing == other, many == 0)
                self.check(other, self.modelled(chain, events))
                for event in events[12 - many:]:
                    handing.do(event)
                self.assertTrue(handing == other)
                other.do(("send", "k", chain.desks[0].deeds[0]))
                self.assertFalse(handing == other)
                self.assertEqual(len(handing.events), 12)

    def test_too_far(self):
        for many in range(3):
            handing = passed(two(), LATE[:many])
            for value in any_values() + [many + 1, -1, "1", 1.0, True]:
                if value.__class__ is not int or not 0 <= value <= many:
                    refused(self, TooFar, many, handing.undo, value)
            self.assertEqual(len(handing.events), many)

    def test_equal(self):
        handing = passed(two(), LATE)
        self.assertIs(handing == passed(two(), LATE), True)
        self.assertIs(handing != passed(two(), LATE), False)
        for other in [
            passed(two(), LATE[:6]), passed(two("letter", "all"), LATE), Handing(two()), passed(two(), LATE + LATE[:1]),
            passed(Chain([lamp(), bell()], two().plans), LATE),
        ] + any_values() + [two(), LATE]:
            self.assertIs(handing == other, False)


class PassedTest(unittest.TestCase):
    def test_positions(self):
        chain = two()
        self.assertEqual(passed(events=LATE, chain=chain), passed(chain, LATE))
        self.assertEqual(passed(chain, LATE).events, LATE)
        for k in range(len(LATE) + 1):
            for value in not_events() + [("work", 1, "fails")][:k < 4]:
                refused(self, BadEvent, k, passed, chain, LATE[:k] + [value] + LATE[k:])
        refused(self, BadEvent, 3, passed, two("key"), LATE)

    def test_against_the_words(self):
        for seed in range(60):
            pick = random.Random(seed)
            chain = made_chain(seed)
            events = random_handing(pick, chain, 20).events
            pick.shuffle(events)
            model, wrong = ChainModel(chain), None
            for position, event in enumerate(events):
                if not model.can(event):
                    wrong = position
                    break
                model.do(event)
            if wrong is None:
                self.assertEqual(passed(chain, events).wrong(), model.wrong())
            else:
                refused(self, BadEvent, wrong, passed, chain, events)


class HarmsTest(unittest.TestCase):
    def check(self, chain, events):
        model = ChainModel(chain)
        seats = []
        if all(model.can(event) and (model.do(event) or True) for event in events) and model.quiet():
            seats = sorted({seat for seat, _ in model.wrong()})
        self.assertEqual(harmed(value=events, chain=chain), seats)
        self.assertIs(harms(value=events, chain=chain), seats != [])
        return seats

    def test_rows_of_all_sorts(self):
        met = []
        for seed in range(400):
            pick = random.Random(seed)
            chain = made_chain(2 * seed, 3)
            if seed % 2:
                chain = Chain([lamp()] * 3, [Plan(pick.choice(["letter", "letter", "key"])) for _ in range(3)])
            model = settle(pick, random_handing(pick, chain, 18, ("k", "m")[:1 + seed % 3 // 2]))
            met.append(len(self.check(chain, model.events)))
            self.check(chain, model.events[:-1])
            self.check(chain, model.events[1:])
            self.check(chain, model.events + [("send", "k", chain.desks[0].deeds[0])])
        for many in (0, 1, 2, 3):
            self.assertGreater(met.count(many), 3, many)

    def test_no_lists(self):
        chain = two()
        for value in not_events() + [tuple(LATE), {k: event for k, event in enumerate(LATE)}, LATE + [None], [LATE], LATE[1:], LATE[:6]]:
            self.assertEqual(harmed(chain, value), [])
            self.assertIs(harms(chain, value), False)
            self.assertEqual(harmed(chain, [value]), [])
            self.assertEqual(harmed(chain, LATE + [value]), [])
        self.assertEqual(harmed(chain, LATE), [0, 1])
        self.assertEqual(harmed(Chain([lamp(), bell()], [Plan("letter"), Plan("key")]), LATE), [0])

    def test_each_how_is_met(self):
        self.assertEqual(HOW, ["done", "stops", "fails"])
        self.assertEqual(harmed(two(), []), [])


if __name__ == "__main__":
    unittest.main()
