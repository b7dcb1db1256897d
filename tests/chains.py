"""Chains, and a handing by the words of the document alone, for several tests."""

import random

from lateeditions.desks import Desk
from lateeditions.plans import Plan
from lateeditions.rowsofdesks import Chain
from support import lamp, made_desk

WAYS = ["letter", "key", "all"]
HOW = ["done", "stops", "fails"]


def bell():
    """A desk with the lamp's deeds, of which the first one alone counts."""
    return Desk(
        ["no", "yes"], {"press": {"no": "yes", "yes": "yes"}, "cut": {"no": "no", "yes": "yes"}},
        {"no": "dark", "yes": "light"},
    )


def counter(many):
    """A desk with the lamp's deeds: one counts, up to a top, the other does nothing."""
    names = "abcdefghi"[:many]
    return Desk(
        list(names), {"press": dict(zip(names, names[1:] + names[-1])), "cut": {name: name for name in names}},
        {name: "t" if name == names[-1] else "s" for name in names},
    )


def chain_plan(pick):
    return Plan(
        pick.choice(WAYS), tries=pick.randint(1, 3), window=pick.choice([None, None, 1, 2, 12, "ever"]), stamp=pick.random() < 0.3,
    )


def made_chain(seed, most=4):
    """A chain of one to four seats, the same for each seed."""
    pick = random.Random(seed)
    many = pick.randint(1, most)
    if seed % 2:
        desks = [made_desk(pick.randint(0, 99), pick.randint(1, 4), 2, 2) for _ in range(many)]
    else:
        desks = [pick.choice([lamp(), bell(), counter(3), counter(5)]) for _ in range(many)]
    return Chain(desks, [chain_plan(pick) for _ in range(many)])


class ChainModel:
    """A handing whose copies are records [number, seat, where, fails], where being "line", "shelf" or None (noted)."""

    def __init__(self, chain):
        self.desks, self.plans = chain.desks, chain.plans
        self.events, self.letters = [], []
        # Copies in the sequence in which they came to where they are; what was done, (seat, key, number).
        self.copies, self.was_done = [], []

    def at(self, seat, where):
        return [copy for copy in self.copies if copy[1] == seat and copy[2] == where]

    def key(self, copy):
        return self.letters[copy[0]][0]

    def taken(self, word, seat):
        shelved = self.at(seat, "shelf")
        if word == "replay":
            return shelved[0] if shelved else None
        for copy in self.at(seat, "line"):
            keys = [self.key(other) for other in shelved]
            if not {"letter": False, "key": self.key(copy) in keys, "all": len(keys) > 0}[self.plans[seat].way]:
                return copy
        return None

    def can(self, event):
        return event[0] == "send" or self.taken(event[0], event[1]) is not None

    def done(self, seat, key):
        return [number for where, other, number in self.was_done if (where, other) == (seat, key)]

    def is_left_out(self, seat, copy):
        plan, done = self.plans[seat], self.done(seat, self.key(copy))
        if plan.stamp and max(done, default=-1) >= copy[0]:
            return True
        if plan.window is None or copy[0] not in done:
            return False
        return plan.window == "ever" or done[::-1].index(copy[0]) < plan.window

    def do(self, event):
        self.events.append(event)
        word, where, what = event
        if word == "send":
            self.letters.append((where, what))
            self.copies.append([len(self.letters) - 1, 0, "line", 0])
            return ("sent", len(self.letters) - 1)
        copy = self.taken(word, where)
        if what == "fails":
            if word == "work":
                copy[3] += 1
                if copy[3] == self.plans[where].tries:
                    copy[2] = "shelf"
                    self.copies = [other for other in self.copies if other is not copy] + [copy]
                    return ("failed", copy[0], "shelved")
            return ("failed", copy[0], "stays")
        left = self.is_left_out(where, copy)
        if not left:
            self.was_done.append((where, self.key(copy), copy[0]))
        if what == "done":
            copy[2] = None
        if where + 1 < len(self.desks):
            self.copies.append([copy[0], where + 1, "line", 0])
        return ("played", copy[0], "left" if left else "done", what == "done")

    def standing(self, seat, key):
        desk = self.desks[seat]
        return desk.lead(desk.start, [self.letters[number][1] for number in self.done(seat, key)])

    def due(self, seat, key):
        desk = self.desks[seat]
        return desk.lead(desk.start, [deed for other, deed in self.letters if other == key])

    def quiet(self):
        return not any(copy[2] for copy in self.copies)

    def wrong(self):
        keys = {key for key, _ in self.letters}
        return sorted(
            (seat, key) for seat, desk in enumerate(self.desks) for key in keys
            if desk.sight(self.standing(seat, key)) != desk.sight(self.due(seat, key))
        )


def chain_events(chain, keys):
    """All that is an event of a chain by its form, with these keys."""
    sends = [("send", key, deed) for key in keys for deed in chain.desks[0].deeds]
    return sends + [(word, seat, how) for word in ("work", "replay") for seat in range(len(chain)) for how in HOW]


def random_handing(pick, chain, many, keys=("k", "ab")):
    """The model of a row of so many possible events, about half of them at the latest seats that can."""
    model = ChainModel(chain)
    while len(model.events) < many:
        events = [event for event in chain_events(chain, keys) if model.can(event)]
        sends = [event for event in events if event[0] == "send"]
        others = [event for event in events if event[0] != "send"]
        if not others or pick.random() < 0.25:
            model.do(pick.choice(sends))
        else:
            model.do(pick.choice(others if pick.random() < 0.5 else [event for event in others if event[1] == others[-1][1]]))
    return model


def settle(pick, model):
    """Lets all that lies in lines and on shelves be done."""
    while not model.quiet():
        seats = [seat for seat in range(len(model.desks)) if model.at(seat, "line") or model.at(seat, "shelf")]
        seat = pick.choice(seats)
        word = "replay" if model.taken("work", seat) is None or model.at(seat, "shelf") and pick.random() < 0.5 else "work"
        model.do((word, seat, "done"))
    return model
