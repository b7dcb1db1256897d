import itertools
import random
import unittest

from lateeditions.books import Book
from lateeditions.conditions import failing
from lateeditions.desks import Desk
from lateeditions.errors import BadSeat
from lateeditions.handed import Handing, harmed, harms
from lateeditions.harming import harm_of
from lateeditions.plans import Plan
from lateeditions.rowharm import harm, harm_at, loosest_enough, ways_enough, weak_seats
from lateeditions.rowsofdesks import Chain
from chains import WAYS, ChainModel, bell, counter, made_chain, random_handing, settle
from support import any_values, capped, lamp, lines_run, made_desk, refused, same_but, setters

CHAINS = [made_chain(seed) for seed in range(140)]


def is_weak_alone(chain, seat):
    desk, plan = chain.desks[seat], chain.plans[seat]
    ways = [other.way for other in chain.plans[:seat + 1]]
    loosest = [way for way in WAYS if way in ways][0]
    return failing(Book([desk], []), same_but(plan, way=loosest)) != []


def with_ways(chain, ways):
    return Chain(chain.desks, [same_but(plan, way=way) for plan, way in zip(chain.plans, ways)])


class WeakSeatsTest(unittest.TestCase):
    def test_as_the_desks_alone(self):
        sizes = []
        for chain in CHAINS:
            told = weak_seats(chain=chain)
            self.assertEqual(told, [seat for seat in range(len(chain)) if is_weak_alone(chain, seat)])
            sizes.append(len(told))
        for many in (0, 1, 2, 3):
            self.assertGreater(sizes.count(many), 3, many)

    def test_no_row_harms_at_other_seats(self):
        met = 0
        for seed in range(300):
            pick = random.Random(seed)
            chain = made_chain(2 * seed, 3)
            seats = harmed(chain, settle(pick, random_handing(pick, chain, 16, ("k",))).events)
            for seat in seats:
                self.assertIn(seat, weak_seats(chain))
                met += 1
        self.assertGreater(met, 5)

    def test_tries_do_not_matter(self):
        for chain in CHAINS[:60]:
            other = Chain(chain.desks, [same_but(plan, tries=3) for plan in chain.plans])
            self.assertEqual(weak_seats(chain), weak_seats(other))

    def test_what_stands_behind_does_not_matter(self):
        for chain in CHAINS:
            for last in range(len(chain)):
                self.assertEqual(weak_seats(chain.part(0, last)), [seat for seat in weak_seats(chain) if seat <= last])


class HarmTest(unittest.TestCase):
    def check(self, chain, events, seat=None):
        """Holds that events of one key harm a chain, at a seat, by a handing and by the words of the document."""
        self.assertIsInstance(events, list)
        handing, model = Handing(chain), ChainModel(chain)
        for event in events:
            self.assertTrue(model.can(event), event)
            self.assertEqual(handing.do(event), model.do(event))
        self.assertTrue(handing.quiet and model.quiet())
        self.assertEqual(len({event[1] for event in events if event[0] == "send"}), 1)
        seats = sorted({where for where, _ in model.wrong()})
        self.assertEqual(harmed(chain, events), seats)
        self.assertIs(harms(chain, events), True)
        if seat is not None:
            self.assertIn(seat, seats)

    def test_all_seats(self):
        met = []
        for chain in CHAINS:
            for seat in range(len(chain)):
                told = harm_at(seat=seat, chain=chain)
                self.assertEqual(told is not None, seat in weak_seats(chain))
                if told is not None:
                    self.check(chain, told, seat)
                met.append(told is None)
            told = harm(chain=chain)
            self.assertEqual(told is None, weak_seats(chain) == [])
            if told is not None:
                self.check(chain, told)
        self.assertGreater(min(met.count(True), met.count(False)), 60)

    def test_each_kind_of_plan_at_a_later_seat(self):
        # Seat 0 keeps what it gets, so that only what the later seat is handed harms.
        kinds = [
            (Plan("all"), ["key", "all"]), (Plan("key"), ["key", "all"]), (Plan("all"), ["letter"]), (Plan("key", stamp=True), ["letter"]),
            *[(Plan("all", window=window, tries=2), ["letter"]) for window in [*range(1, 13), "ever"]],
        ]
        desks = [lamp(), counter(9), setters().desks[0], capped(3).desks[1]]
        met = 0
        for plan, ways in kinds:
            for desk in desks:
                other = Chain([desk, desk, desk], [Plan(ways[0], tries=3), plan, Plan("all", stamp=True, window="ever")])
                for seat in range(3):
                    told = harm_at(other, seat)
                    self.assertEqual(told is not None, is_weak_alone(other, seat))
                    if told is not None:
                        self.check(other, told, seat)
                        met += seat == 1
        self.assertGreater(met, 15)

    def test_seats_of_the_loosest_way(self):
        # The loosest way may stand ahead, at the seat itself, or at both; what is between and behind goes on at once.
        met = 0
        for ways in itertools.product(WAYS, repeat=4):
            plans = [Plan(way, tries=1 + at % 3, window=[None, 3, "ever", 1][at]) for at, way in enumerate(ways)]
            chain = Chain([lamp(), bell(), lamp(), lamp()], plans)
            for seat in range(4):
                told = harm_at(chain, seat)
                self.assertEqual(told is not None, is_weak_alone(chain, seat))
                if told is not None:
                    self.check(chain, told, seat)
                    met += 1
        self.assertGreater(met, 100)

    def test_one_desk_is_as_alone(self):
        for seed in range(60):
            desk = made_desk(seed, 2 + seed % 4, 2, 2)
            plan = Plan(WAYS[seed % 3], window=[None, 1, 5, "ever"][seed % 4], stamp=seed % 5 == 0)
            self.assertEqual(harm(Chain([desk], [plan])) is None, harm_of(Book([desk], []), plan) is None)

    def test_bad_seats(self):
        for many in (1, 3):
            chain = Chain([lamp()] * many, [Plan("letter")] * many)
            for value in any_values() + [many, -1, "0", True, False, 0.0]:
                if value.__class__ is not int or not 0 <= value < many:
                    refused(self, BadSeat, value, harm_at, chain, value)

    def test_new_each_time(self):
        chain = Chain([lamp()], [Plan("letter")])
        for tell in (harm, weak_seats, ways_enough, loosest_enough):
            told = tell(chain)
            tell(chain).clear()
            self.assertEqual(tell(chain), told)


class WaysEnoughTest(unittest.TestCase):
    def test_all_ways(self):
        sizes = []
        for chain in CHAINS[:90]:
            rows = list(itertools.product(sorted(WAYS), repeat=len(chain)))
            enough = [row for row in rows if not weak_seats(with_ways(chain, row))]
            self.assertEqual(ways_enough(chain=chain), enough)
            self.assertEqual(enough, sorted(enough))
            looser = {"all": "key", "key": "letter"}
            loosest = [
                row for row in enough
                if not any(way in looser and row[:at] + (looser[way],) + row[at + 1:] in enough for at, way in enumerate(row))
            ]
            self.assertEqual(loosest_enough(chain=chain), loosest)
            sizes.append((len(enough) > 0, len(loosest)))
        for kind in [(False, 0), (True, 1)]:
            self.assertGreater(sizes.count(kind), 5, kind)

    def test_whole_lists(self):
        chain = Chain([bell(), lamp(), bell()], [Plan("letter"), Plan("key", window="ever"), Plan("letter")])
        self.assertEqual(loosest_enough(chain), [("key", "key", "letter")])
        self.assertEqual(len(ways_enough(chain)), 12)
        self.assertEqual(ways_enough(Chain([lamp()], [Plan("letter")])), [])
        self.assertEqual(loosest_enough(Chain([lamp()], [Plan("letter")])), [])
        self.assertEqual(ways_enough(Chain([bell()], [Plan("all")])), [("all",), ("key",), ("letter",)])
        self.assertEqual(loosest_enough(Chain([lamp()], [Plan("all", stamp=True)])), [("key",)])


NAMES = ["s", "t", "u", "v", "st", "ts", "w", "abcdefgh", "x"]
DEEDS = ["send", "back", "work", "hop"]


def falling(many):
    """A desk that counts one deed up to a top, which alone is seen."""
    names = "abcdefghi"[:many]
    return Desk(list(names), {"go": dict(zip(names, names[1:] + names[-1]))}, {name: "t" if name == names[-1] else "s" for name in names})


def wheel():
    return Desk(["a", "b", "c"], {"go": {"a": "b", "b": "c", "c": "a"}}, {"a": "s", "b": "s", "c": "t"})


def nine(sights, *targets):
    """A desk of nine standings, told by the numbers of those to which each deed leads."""
    leads = {deed: {name: NAMES[int(one)] for name, one in zip(NAMES, row)} for deed, row in zip(DEEDS, targets)}
    return Desk(NAMES, leads, dict(zip(NAMES, sights)))


def with_window(desks, window, ways):
    return Chain(desks, [Plan(way, window=window) for way in ways])


def rows_of(*allowed):
    return list(itertools.product(*[part.split() for part in allowed]))


def told(text):
    """Events in short: a deed is sent, and a seat with d, s or f is a work there; r stands ahead of a replay that is done."""
    events = []
    for word in text.split():
        if word in DEEDS + ["go"]:
            events.append(("send", "k", word))
        elif word[0] == "r":
            events.append(("replay", int(word[1]), "done"))
        else:
            events.append(("work", int(word[0]), {"d": "done", "s": "stops", "f": "fails"}[word[1]]))
    return events


class WrittenOutTest(unittest.TestCase):
    """What is told of chains with several windows, written out."""

    def check(self, chain, seats, rows, enough):
        self.assertEqual(weak_seats(chain), seats)
        self.assertEqual([harm_at(chain, seat) for seat in range(len(chain))], [None if row is None else told(row) for row in rows])
        self.assertEqual(harm(chain), None if not seats else told(rows[seats[0]]))
        self.assertEqual(ways_enough(chain), enough)
        for seat in seats:
            self.assertIn(seat, harmed(chain, harm_at(chain, seat)))

    def test_one_deed(self):
        desks, ways = [falling(2), falling(3), falling(9), wheel()], ["letter"] * 4
        go = " go 0d 1d 2d 3d"
        self.check(with_window(desks, None, ways), [1, 2, 3], [
            None, "go 0d 1s 2d 3d 1f r1 2d 3d", "go 0d 1d 2s 3d 2f r2 3d" + 6 * go, "go 0d 1d 2d 3s 3f r3",
        ], [])
        self.check(with_window(desks, 1, ways), [2, 3], [
            None, None, "go 0d 1d 2s 3d 2f" + go + " r2 3d" + 5 * go, "go 0d 1d 2d 3s 3f" + go + " r3",
        ], rows_of(*["all key"] * 4))
        self.check(with_window(desks, 12, ways), [3], [None, None, None, "go 0d 1d 2d 3s 3f" + 12 * go + " r3"], rows_of(*["all key"] * 4))
        self.check(with_window(desks, "ever", ways), [], [None] * 4, rows_of(*["all key letter"] * 4))

    def test_windows_that_are_long_enough(self):
        for many in range(3, 10):
            for window, weak in ((many - 3, True), (many - 2, False), (12, False), ("ever", False)):
                chain = with_window([falling(many), falling(2)], window or None, ["letter", "all"])
                self.assertEqual(weak_seats(chain), [0] if weak else [])
                enough = rows_of("all key" if weak else "all key letter", "all key letter")
                self.assertEqual(ways_enough(chain), enough if window else [])

    def test_deeds_that_change_places(self):
        desks = [
            nine("ssssssssx", "123456788", "123456788", "234567888", "888888888"), nine("abcdefghi", *["012345678"] * 4),
            nine("aabbccdde", "123456788", "234567888", "345678888", "456788888"),
            nine("aaaaaaaab", "123456780", "234567801", "456780123", "801234567"),
        ]
        ways = ["letter", "letter", "key", "all"]
        work, hop = [f" {deed} 0d 1d 2d 3d" for deed in ("work", "hop")]
        keys = rows_of(*["all key"] * 4)
        self.check(with_window(desks, None, ways), [0, 2, 3], [
            "send 0s 1d 2d 3d 0f r0 1d 2d 3d" + 3 * work, None, "send 0d 1s 2d 3d 1f r1 2d 3d",
            "send 0d 1s 2d 3d 1f r1 2d 3d back 0d 1d 2d 3d" + work,
        ], [])
        self.check(with_window(desks, 1, ways), [0, 2, 3], [
            "send 0s 1d 2d 3d 0f" + work + " r0 1d 2d 3d" + 2 * work, None, "send 0d 1s 2d 3d 1f" + hop + " r1 2d 3d",
            "send 0d 1s 2d 3d 1f" + hop + " r1 2d 3d" + hop,
        ], keys)
        self.check(with_window(desks, 12, ways), [3], [None, None, None, "send 0d 1s 2d 3d 1f" + 12 * hop + " r1 2d 3d"], keys)
        self.check(with_window(desks, "ever", ways), [], [None] * 4, rows_of(*["all key letter"] * 4))

    def test_deeds_that_do_not(self):
        desks = [
            nine("abcdefghi", *[9 * one for one in "0123"]), nine("abcdefghi", *["012345678"] * 4),
            nine("abcabcabc", *["345678012"] * 4), nine("aaaaaaaab", *["888888888"] * 4),
        ]
        for window in (None, 1, 12, "ever"):
            row = "send 0f back 0d 1d 2d 3d r0 1d 2d 3d"
            chain = with_window(desks, window, ["letter", "letter", "key", "all"])
            self.check(chain, [0], [row, None, None, None], rows_of("all key", *["all key letter"] * 3))
            kept = with_window(desks, window, ["key", "letter", "key", "all"])
            self.check(kept, [], [None] * 4, rows_of("all key", *["all key letter"] * 3))


class CostTest(unittest.TestCase):
    def test_nine_standings(self):
        desks = [
            nine("abcabcabc", "123456780", "246801357", "048372615", "012345678"),
            nine("ssssssssx", "123456788", "123456788", "234567888", "888888888"),
            nine("abcabcabc", *["345678012"] * 4), nine("aaaaaaaab", "123456780", "234567801", "456780123", "801234567"),
        ]
        for window in (None, 1, 12, "ever"):
            chain = with_window(desks, window, ["letter"] * 4)
            self.assertLess(lines_run(weak_seats, chain), 12000)
            self.assertLess(lines_run(ways_enough, chain), 12000)
            self.assertLess(lines_run(harm, chain), 12000)
            for seat in range(4):
                self.assertLess(lines_run(harm_at, chain, seat), 12000)


if __name__ == "__main__":
    unittest.main()
