"""What several parts of the program tell of one book, held against each other."""

import random
import unittest

from lateeditions.amid import Round, round_harm
from lateeditions.bearing import change_places, made_up_for, passes_carry
from lateeditions.books import Book
from lateeditions.changes import is_right, keeps_deeds
from lateeditions.changetexts import compiled_book, led_directly
from lateeditions.conditions import failing, is_sound
from lateeditions.console import Console
from lateeditions.enough import is_as_strict, least_fence, least_window, sparing
from lateeditions.errors import DeskError
from lateeditions.eyes import seen_along
from lateeditions.handed import Handing
from lateeditions.harming import harm_from, harm_of
from lateeditions.houses import House
from lateeditions.logs import house_of
from lateeditions.machines import alike_for_good, led
from lateeditions.outcomes import done_and_due, outcome
from lateeditions.papers import is_paper, least_paper
from lateeditions.plans import Plan
from lateeditions.printing import format_change, format_program
from lateeditions.programs import shown
from lateeditions.rowharm import weak_seats
from lateeditions.rowsofdesks import Chain
from lateeditions.shelves import Shelf
from lateeditions.smallest import smallest
from lateeditions.texts import format_event, format_log, format_plan, format_row, parse_log, parse_plan, parse_row
from plainly import settled
from support import (
    LAMP, SWITCH, TOLAMP, all_deeds, made_book, made_desk, made_plan, made_program, made_told_change, plain_inputs,
    plain_seen, random_events, right_book, same_but, told_changes,
)
from chains import chain_plan


def told_books(many):
    """So many tuples (programs, changes, book, values) of programs of one to three editions."""
    found, seed = 0, 0
    while found < many:
        seed += 1
        pick = random.Random(seed)
        programs = [pick.choice([SWITCH, LAMP, made_program(seed + k)]) for k in range(1 + seed % 3)]
        changes = [made_told_change(seed + k, programs[k], programs[k + 1]) for k in range(len(programs) - 1)]
        if programs == [SWITCH, LAMP] and seed % 2:
            changes = [TOLAMP]
        try:
            book, values = compiled_book(programs, changes)
        except DeskError:
            continue
        found += 1
        yield pick, programs, changes, book, values


class TellTheSameTest(unittest.TestCase):
    def test_programs_and_shelves(self):
        for pick, programs, changes, book, values in told_books(60):
            plan = made_plan(pick, book)
            events = random_events(pick, book, plan, 20).events
            house = House(book, plan)
            for event in events:
                house.do(event)
            for key in ("k", "ab", "none"):
                for place, row in [(house.place(key), house.done(key)), (house.due(key), house.due_row(key))]:
                    edition, worth = led_directly(programs, changes, row)
                    self.assertEqual(place[0], edition)
                    self.assertEqual(values[edition][book.desks[edition].standings.index(place[1])], worth)
                    self.assertEqual(book.desks[edition].sight(place[1]), shown(programs[edition], worth))
                    self.assertEqual(led(book, book.start, parse_row(format_row(row))), place)
                self.assertEqual((house.done(key), house.due_row(key)), done_and_due(book, plan, events, key))
                self.assertEqual(house.look(key, 0), seen_along(book, book.start, house.done(key), 0)[-1])
                self.assertEqual(house.due_look(key, 0), seen_along(book, book.start, house.due_row(key), 0)[-1])

    def test_houses_logs_and_texts(self):
        for pick, _, _, book, _ in told_books(30):
            plan = made_plan(pick, book)
            house, shelf = House(book, plan), Shelf(book, plan)
            for event in random_events(pick, book, plan, 16).events:
                self.assertEqual(house.do(event), shelf.do(event))
            other = house_of(book, parse_plan(format_plan(plan)), parse_log(format_log(house.log())))
            self.assertTrue(other == house and other == shelf)
            self.assertEqual(other.log(), house.log())

    def test_the_console(self):
        harmed = 0
        for pick, programs, changes, book, _ in told_books(60):
            plan = made_plan(pick, book)
            console = Console()
            for k, program in enumerate(programs):
                console.execute("edition : " + format_program(program).replace("\n", " / "))
                if k:
                    console.execute("change : " + format_change(changes[k - 1]).replace("\n", " / "))
            console.execute("plan " + format_plan(plan))
            console.execute("open")
            events = harm_of(book, plan)
            answer = console.execute("harm")
            self.assertEqual(answer == "none", is_sound(book, plan))
            if events is not None:
                harmed += 1
                for line in answer.split("; "):
                    console.execute(line)
                self.assertEqual(console.execute("quiet"), "yes")
                now = console.execute("edition")
                self.assertNotEqual(console.execute(f"look k {now}"), console.execute(f"due k {now}"))
            rights = [console.execute(f"right {k}") == "right" for k in range(1, len(programs))]
            self.assertEqual(all(rights), is_right(book))
        self.assertGreater(harmed, 15)

    def test_soundness_and_all_that_shows_it(self):
        met = []
        for seed in range(150):
            pick = random.Random(seed)
            book = made_book(seed, 1 + seed % 3) if seed % 3 else right_book(seed, 1 + seed % 2)
            plan = made_plan(pick, book)
            if seed % 2:
                plan = same_but(plan, fence=sorted(all_deeds(book)))
            sound = is_sound(book, plan)
            self.assertEqual(failing(book, plan) == [], sound)
            self.assertEqual(harm_of(book, plan) is None, sound)
            paper, fence, window = least_paper(book, plan), least_fence(book, plan), least_window(book, plan)
            self.assertEqual(paper is not None, sound)
            self.assertEqual(fence is not None and all(deed in plan.fence for deed in fence), sound)
            sizes = {None: 0, "ever": 13}
            enough = window is not None and sizes.get(window, window) <= sizes.get(plan.window, plan.window)
            self.assertEqual(enough, sound)
            if sound:
                self.assertTrue(is_paper(book, plan, paper))
                self.assertTrue(any(
                    is_as_strict(other, same_but(plan, fence=sorted(all_deeds(book)))) for other in sparing(book)
                ))
            for instance in failing(book, plan)[:3]:
                self.assertEqual(outcome(book, plan, harm_from(book, plan, instance))[0], "harm")
            met.append(sound)
        self.assertGreater(min(met.count(True), met.count(False)), 30)

    def test_what_deeds_bear_and_what_fails(self):
        for seed in range(40):
            book = made_book(seed, 1 + seed % 3)
            carries = {(one[1][0], one[2]) for one in failing(book, Plan("key", window="ever"))}
            swaps = {(one[1][0], one[2], one[3]) for one in failing(book, Plan("letter", window="ever")) if one[0] == "swap"}
            drops = {(one[1][0], one[2], one[3]) for one in failing(book, Plan("letter", stamp=True)) if one[0] == "drop"}
            for edition in range(book.last + 1):
                deeds = [deed for deed in all_deeds(book) if deed[0] <= edition]
                for k, one in enumerate(deeds):
                    if edition < book.last:
                        self.assertEqual(passes_carry(book, edition, one) is not None, (edition, one) in carries)
                    for other in deeds[k + 1:]:
                        self.assertEqual(change_places(book, edition, one, other) is not None, (edition, one, other) in swaps)
                    for other in deeds:
                        self.assertEqual(made_up_for(book, edition, one, other) is not None, (edition, one, other) in drops)

    def test_rounds_and_books(self):
        met = []
        for change in told_changes(80):
            book = Book([change.first, change.second], [change])
            met.append(round_harm(change) is None)
            self.assertEqual(met[-1], keeps_deeds(book, 0))
            tour = Round(change, {"k": change.first.start})
            place = book.start
            for event in round_harm(change) or [("carry", "k")]:
                tour.do(event)
                place = led(book, place, ["carry" if event[0] == "carry" else (0, event[2])])
                self.assertEqual(tour.standing("k"), place)
            self.assertEqual(alike_for_good(book, place, (1, tour.due("k"))), met[-1])
        self.assertGreater(min(met.count(True), met.count(False)), 10)

    def test_a_chain_of_one_desk_and_a_shelf(self):
        for seed in range(60):
            pick = random.Random(seed)
            desk = made_desk(seed, 1 + seed % 5, 2, 2)
            book, plan = Book([desk], []), chain_plan(pick)
            chain = Chain([desk], [plan])
            shelf, handing = Shelf(book, plan), Handing(chain)
            for event in random_events(pick, book, plan, 20).events:
                told = ("send", event[1], event[2][1]) if event[0] == "send" else (event[0], 0, event[1])
                self.assertEqual(handing.do(told), shelf.do(event))
                self.assertEqual([handing.line_at(0), handing.shelf_at(0), handing.quiet], [shelf.line, shelf.shelved, shelf.quiet])
                for key in ("k", "ab"):
                    self.assertEqual([(0, handing.standing_at(0, key)), (0, handing.due_at(0, key))], [shelf.place(key), shelf.due(key)])
            self.assertEqual(weak_seats(chain) == [], is_sound(book, plan))

    def test_smallest_desks_in_chains(self):
        for seed in range(40):
            pick = random.Random(seed)
            desks = [made_desk(seed + k, 2 + (seed + k) % 5, 2, 2) for k in range(1 + seed % 3)]
            plans = [chain_plan(pick) for _ in desks]
            self.assertEqual(weak_seats(Chain(desks, plans)), weak_seats(Chain([smallest(desk) for desk in desks], plans)))

    def test_alike_for_good_at_rest(self):
        # Keys whose places are alike for good show the same behind the same events, whatever was done ahead.
        for seed in range(60):
            pick = random.Random(seed)
            book = right_book(seed, 1 + seed % 3)
            plan = made_plan(pick, book)
            events = settled(pick, book, plan, 14, ("k", "m")).events
            shelf = Shelf(book, plan)
            for event in events:
                shelf.do(event)
            places = [shelf.place("k"), shelf.place("m"), shelf.due("k"), shelf.due("m")]
            for one in places:
                for other in places:
                    if alike_for_good(book, one, other):
                        row = [pick.choice(plain_inputs(book, book.last)) for _ in range(5)]
                        ahead = ["carry"] * (book.last - one[0])
                        for edition in range(one[0] + 1):
                            self.assertEqual(seen_along(book, one, ahead, edition)[0], plain_seen(book, one, edition))
                        behind = [led(book, place, ahead + row) for place in (one, other)]
                        self.assertTrue(alike_for_good(book, *behind))
                        self.assertEqual(*[book.desks[book.last].sight(place[1]) for place in behind])


class AgainTest(unittest.TestCase):
    def test_calls_made_again(self):
        for pick, programs, changes, book, _ in told_books(10):
            plan = made_plan(pick, book)
            again = compiled_book(list(programs), tuple(changes))[0]
            self.assertEqual(again, book)
            for call in (failing, harm_of, least_paper, least_fence, least_window):
                self.assertEqual(call(book, plan), call(again, parse_plan(format_plan(plan))))
            self.assertEqual([format_event(event) for event in harm_of(book, plan) or []], [format_event(event) for event in harm_of(again, plan) or []])


if __name__ == "__main__":
    unittest.main()
