"""Letters that are handed on along a chain, and the harm that this does."""

from lateeditions.common import events_left, is_int, is_name, is_one_of
from lateeditions.errors import BadEvent, BadLetter, NotNow
from lateeditions.rowsofdesks import check_seat
from lateeditions.shelves import HOWS, check_name, free_position, is_left_out


class Handing:
    """What happens along a chain; at first nothing has happened."""

    def __init__(self, chain):
        self._chain = chain
        self._desks = chain.desks
        self._plans = chain.plans
        self._begin()

    def _begin(self):
        """Sets all as it is ahead of the first event.

        Copies of letters have numbers of their own, whichever seat they come to; _copies tells the
        letter of each. Lines and shelves have the numbers of copies.
        """
        self._events = []
        self._letters = []
        self._copies = []
        self._fails = []
        self._lines = [[] for _ in self._desks]
        self._shelves = [[] for _ in self._desks]
        self._standings = [{} for _ in self._desks]
        self._done = [{} for _ in self._desks]

    @property
    def chain(self):
        return self._chain

    @property
    def quiet(self):
        return not any([len(copies) > 0 for copies in self._lines + self._shelves])

    @property
    def events(self):
        return list(self._events)

    def can(self, event):
        """Whether any value is an event that is possible now."""
        if not isinstance(event, tuple) or len(event) != 3:
            return False
        word, where, what = event
        if is_one_of(word, ("send",)):
            return is_name(where) and is_one_of(what, self._desks[0].deeds)
        if not is_one_of(word, ("work", "replay")) or not is_one_of(what, HOWS):
            return False
        if not is_int(where) or not 0 <= where < len(self._desks):
            return False
        return self._taken(word, where) is not None

    def _taken(self, word, seat):
        """The copy that a work or replay at a seat takes now, or None."""
        line = self._lines[seat]
        shelf = self._shelves[seat]
        if word == "replay":
            return shelf[0] if shelf else None
        position = free_position(self._plans[seat], self._keys_of(line), self._keys_of(shelf))
        return None if position is None else line[position]

    def _keys_of(self, copies):
        return [self._letters[self._copies[copy]][0] for copy in copies]

    def do(self, event):
        """Lets an event happen, and returns its account."""
        if not self.can(event):
            raise NotNow(event)
        return self._happen(event)

    def _happen(self, event):
        word, where, what = event
        self._events.append(event)
        if word == "send":
            self._letters.append((where, what))
            self._come(0, len(self._letters) - 1)
            return ("sent", len(self._letters) - 1)
        copy = self._taken(word, where)
        if what == "fails":
            return self._fail(word, where, copy)
        return self._play(where, copy, what == "done")

    def _come(self, seat, number):
        """A copy of a letter comes to the end of the line of a seat."""
        self._lines[seat].append(len(self._copies))
        self._copies.append(number)
        self._fails.append(0)

    def _fail(self, word, seat, copy):
        number = self._copies[copy]
        if word == "replay":
            return ("failed", number, "stays")
        self._fails[copy] += 1
        if self._fails[copy] < self._plans[seat].tries:
            return ("failed", number, "stays")
        self._lines[seat].remove(copy)
        self._shelves[seat].append(copy)
        return ("failed", number, "shelved")

    def _play(self, seat, copy, noted):
        number = self._copies[copy]
        key, deed = self._letters[number]
        done = self._done[seat].get(key, [])
        left = is_left_out(self._plans[seat], done, number)
        if not left:
            self._standings[seat][key] = self._desks[seat].lead(self.standing_at(seat, key), [deed])
            self._done[seat][key] = done + [number]
        if noted:
            place = self._lines[seat] if copy in self._lines[seat] else self._shelves[seat]
            place.remove(copy)
        if seat + 1 < len(self._desks):
            self._come(seat + 1, number)
        return ("played", number, "left" if left else "done", noted)

    def standing_at(self, seat, key):
        """The standing of a key at a seat."""
        check_seat(self._chain, seat)
        check_name(key)
        return self._standings[seat].get(key, self._desks[seat].start)

    def due_at(self, seat, key):
        """The standing that a key is due at a seat."""
        check_seat(self._chain, seat)
        check_name(key)
        desk = self._desks[seat]
        return desk.lead(desk.start, [deed for other, deed in self._letters if other == key])

    def line_at(self, seat):
        """The list of the numbers of the letters in the line of a seat, one for each copy."""
        check_seat(self._chain, seat)
        return [self._copies[copy] for copy in self._lines[seat]]

    def shelf_at(self, seat):
        """The list of the numbers of the letters on the shelf of a seat, one for each copy."""
        check_seat(self._chain, seat)
        return [self._copies[copy] for copy in self._shelves[seat]]

    def times_at(self, seat, number):
        """How often a letter's deed was done at a seat."""
        check_seat(self._chain, seat)
        key = self.letter(number)[0]
        return self._done[seat].get(key, []).count(number)

    def letter(self, number):
        """The key and the deed of a letter."""
        if not is_int(number) or not 0 <= number < len(self._letters):
            raise BadLetter(number)
        return self._letters[number]

    def wrong(self):
        """The ascending list of the tuples (seat, key) that show otherwise than they are due."""
        keys = sorted({key for key, _ in self._letters})
        return [(seat, key) for seat in range(len(self._desks)) for key in keys if self._is_wrong(seat, key)]

    def _is_wrong(self, seat, key):
        desk = self._desks[seat]
        return desk.sight(self.standing_at(seat, key)) != desk.sight(self.due_at(seat, key))

    def undo(self, number):
        """Takes back so many of the last events."""
        kept = events_left(self._events, number)
        self._begin()
        for event in kept:
            self._happen(event)

    def fork(self):
        """An equal handing of its own."""
        other = Handing(self._chain)
        for event in list(self._events):
            other.do(event)
        return other

    def __eq__(self, other):
        if not isinstance(other, Handing):
            return False
        return self._chain == other._chain and self._events == other._events


def passed(chain, events):
    """The handing behind a list of events."""
    handing = Handing(chain)
    for position, event in enumerate(events):
        if not handing.can(event):
            raise BadEvent(position)
        handing.do(event)
    return handing


def harms(chain, value):
    """Whether any value is a list of events that harms a chain."""
    return len(harmed(chain, value)) > 0


def harmed(chain, value):
    """The ascending list of the seats at which any value, a list of events, harms a chain."""
    if not isinstance(value, list):
        return []
    try:
        handing = passed(chain, value)
    except BadEvent:
        return []
    return sorted({seat for seat, _ in handing.wrong()}) if handing.quiet else []
