"""The shelf: letters under way, and what each key shows behind the events that happened."""

from lateeditions.common import events_left, is_int, is_name, is_one_of
from lateeditions.errors import BadLetter, BadName, NotNow
from lateeditions.machines import CARRY, is_deed_at, place_moves, place_sights
from lateeditions.plans import EVER, check_fence

HOWS = ("done", "stops", "fails")


def check_name(value):
    if not is_name(value):
        raise BadName(value)


def free_position(plan, keys, shelved):
    """The position in a line, by the keys of its letters and of those shelved, of the first one not held."""
    held = {key: True for key in shelved}
    for position, key in enumerate(keys):
        if plan.way == "letter" or not held or plan.way == "key" and key not in held:
            return position
    return None


def is_left_out(plan, done, number):
    """Whether a guard leaves out a letter's deed, behind the deeds of its key, told by their numbers."""
    if plan.stamp and any([other >= number for other in done]):
        return True
    if plan.window is None:
        return False
    return number in (done if plan.window == EVER else done[-plan.window:])


class Shelf:
    """A line and a shelf of letters of a book, by a plan; at first nothing has happened."""

    def __init__(self, book, plan):
        check_fence(book, plan)
        self._book = book
        self._plan = plan
        self._moves = place_moves(book)
        self._sights = place_sights(book)
        self._begin()

    def _begin(self):
        """Sets all as it is ahead of the first event."""
        self._events = []
        self._letters = []
        self._fails = []
        self._line = []
        self._shelved = []
        self._home = self._book.start
        self._places = {}
        self._dues = {}
        self._done = {}

    @property
    def book(self):
        return self._book

    @property
    def plan(self):
        return self._plan

    @property
    def edition(self):
        return self._home[0]

    @property
    def line(self):
        return list(self._line)

    @property
    def shelved(self):
        return list(self._shelved)

    @property
    def quiet(self):
        return len(self._line) + len(self._shelved) == 0

    @property
    def events(self):
        return list(self._events)

    def can(self, event):
        """Whether any value is an event that is possible now."""
        if not isinstance(event, tuple) or not 1 <= len(event) <= 3:
            return False
        if len(event) == 1:
            return is_one_of(event[0], ("carry",)) and self._can_carry()
        if len(event) == 2:
            return is_one_of(event[1], HOWS) and self._taken(event[0]) is not None
        word, key, deed = event
        if not is_one_of(word, ("send",)) or not is_name(key):
            return False
        return is_deed_at(self._book, self._home[0], deed)

    def _can_carry(self):
        if self._home[0] == self._book.last:
            return False
        deeds = [self._letters[number][1] for number in self._line + self._shelved]
        return all([deed not in self._plan.fence for deed in deeds])

    def _taken(self, word):
        """The number of the letter that a work or replay takes now; None for any other value."""
        if is_one_of(word, ("work",)):
            return self._first_in_line()
        if is_one_of(word, ("replay",)) and self._shelved:
            return self._shelved[0]
        return None

    def _first_in_line(self):
        """The first letter in the line that is not held, or None."""
        position = free_position(self._plan, self._keys_of(self._line), self._keys_of(self._shelved))
        return None if position is None else self._line[position]

    def _keys_of(self, numbers):
        return [self._letters[number][0] for number in numbers]

    def do(self, event):
        """Lets an event happen, and returns its account."""
        if not self.can(event):
            raise NotNow(event)
        return self._happen(event)

    def _happen(self, event):
        self._events.append(event)
        if event[0] == "send":
            return self._send(event[1], event[2])
        if event[0] == "carry":
            return self._carry()
        number = self._taken(event[0])
        if event[1] == "fails":
            return self._fail(number, event[0])
        return self._play(number, event[1] == "done")

    def _send(self, key, deed):
        number = len(self._letters)
        self._letters.append((key, deed))
        self._fails.append(0)
        self._line.append(number)
        if key not in self._places:
            self._places[key] = self._home
            self._dues[key] = self._home
            self._done[key] = []
        self._dues[key] = self._moves[self._dues[key]][deed]
        return ("sent", number)

    def _carry(self):
        moves = self._moves
        self._home = moves[self._home][CARRY]
        self._places = {key: moves[place][CARRY] for key, place in self._places.items()}
        self._dues = {key: moves[place][CARRY] for key, place in self._dues.items()}
        return ("carried", self._home[0])

    def _fail(self, number, word):
        if word == "replay":
            return ("failed", number, "stays")
        self._fails[number] += 1
        if self._fails[number] < self._plan.tries:
            return ("failed", number, "stays")
        self._line.remove(number)
        self._shelved.append(number)
        return ("failed", number, "shelved")

    def _play(self, number, noted):
        key, deed = self._letters[number]
        left = is_left_out(self._plan, self._done[key], number)
        if not left:
            self._places[key] = self._moves[self._places[key]][deed]
            self._done[key].append(number)
        if noted and number in self._line:
            self._line.remove(number)
        elif noted:
            self._shelved.remove(number)
        return ("played", number, "left" if left else "done", noted)

    def place(self, key):
        """The place of a key."""
        check_name(key)
        return self._places.get(key, self._home)

    def due(self, key):
        """The due place of a key."""
        check_name(key)
        return self._dues.get(key, self._home)

    def shown(self, key):
        """The sights at a key's place and at its due place."""
        return (self._sights[self.place(key)], self._sights[self.due(key)])

    def letter(self, number):
        """The key and the deed of a letter."""
        self._check_letter(number)
        return self._letters[number]

    def times(self, number):
        """How often a letter's deed was done."""
        self._check_letter(number)
        return self._done[self._letters[number][0]].count(number)

    def fails(self, number):
        """How often a letter has failed in the line."""
        self._check_letter(number)
        return self._fails[number]

    def _check_letter(self, value):
        if not is_int(value) or not 0 <= value < len(self._letters):
            raise BadLetter(value)

    def undo(self, number):
        """Takes back so many of the last events."""
        kept = events_left(self._events, number)
        self._begin()
        for event in kept:
            self._happen(event)

    def fork(self):
        """An equal shelf of its own."""
        other = Shelf(self._book, self._plan)
        for event in list(self._events):
            other.do(event)
        return other

    def __eq__(self, other):
        if not isinstance(other, Shelf):
            return False
        if self._book != other._book or self._plan != other._plan:
            return False
        return self._events == other._events
