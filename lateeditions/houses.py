"""The house led live: a shelf that tells more, and can go back to marks."""

from lateeditions.common import is_int
from lateeditions.errors import BadMark, TooMany
from lateeditions.eyes import seen
from lateeditions.outcomes import done_and_due
from lateeditions.shelves import Shelf

MOST_MARKS = 6


class House(Shelf):
    """A shelf with accounts and marks. All that a shelf has stands here, too."""

    def __init__(self, book, plan):
        super().__init__(book, plan)
        self._accounts = []
        # For each mark how many events stood when it was made: these tell all that it stores.
        self._marks = []

    @property
    def book(self):
        return self._book

    @property
    def plan(self):
        return self._plan

    @property
    def edition(self):
        return self._home[0]

    @property
    def line(self):
        return list(self._line)

    @property
    def shelved(self):
        return list(self._shelved)

    @property
    def quiet(self):
        return len(self._line) + len(self._shelved) == 0

    @property
    def events(self):
        return list(self._events)

    @property
    def marks(self):
        return list(range(len(self._marks)))

    def can(self, event):
        """Whether any value is an event that is possible now."""
        return super().can(event)

    def do(self, event):
        """Lets an event happen, and returns its account."""
        account = super().do(event)
        self._accounts.append(account)
        return account

    def place(self, key):
        """The place of a key."""
        return super().place(key)

    def due(self, key):
        """The due place of a key."""
        return super().due(key)

    def shown(self, key):
        """The sights at a key's place and at its due place."""
        return super().shown(key)

    def letter(self, number):
        """The key and the deed of a letter."""
        return super().letter(number)

    def times(self, number):
        """How often a letter's deed was done."""
        return super().times(number)

    def fails(self, number):
        """How often a letter has failed in the line."""
        return super().fails(number)

    def look(self, key, edition):
        """What the eyes of an edition up to now see at a key's place."""
        return seen(self._book, self.place(key), edition)

    def due_look(self, key, edition):
        """What the eyes of an edition up to now see at a key's due place."""
        return seen(self._book, self.due(key), edition)

    def story(self, number):
        """The list of the tuples (position, account) of the events that had to do with a letter."""
        self.letter(number)
        return [
            (position, account) for position, account in enumerate(self._accounts)
            if account[0] != "carried" and account[1] == number
        ]

    def done(self, key):
        """The list of the inputs that a key's place took."""
        return done_and_due(self._book, self._plan, self._events, key)[0]

    def due_row(self, key):
        """The list of the inputs that a key's due place took."""
        return done_and_due(self._book, self._plan, self._events, key)[1]

    def log(self):
        """The list of the tuples (event, account) of the events that stand."""
        return list(zip(self._events, self._accounts))

    def mark(self):
        """Makes a mark, and returns its number."""
        if len(self._marks) == MOST_MARKS:
            raise TooMany(MOST_MARKS)
        self._marks.append(len(self._events))
        return len(self._marks) - 1

    def back(self, number):
        """Goes back to a mark; those behind it are removed."""
        if not is_int(number) or not 0 <= number < len(self._marks):
            raise BadMark(number)
        self.undo(len(self._events) - self._marks[number])
        self._marks = self._marks[:number + 1]

    def undo(self, number):
        """Takes back so many of the last events, and removes the marks that were made behind then."""
        super().undo(number)
        many = len(self._events)
        self._accounts = self._accounts[:many]
        self._marks = [stood for stood in self._marks if stood <= many]

    def fork(self):
        """An equal house of its own, with the same marks."""
        other = House(self._book, self._plan)
        for event in list(self._events):
            other.do(event)
        other._marks = list(self._marks)
        return other

    def __eq__(self, other):
        if not isinstance(other, Shelf):
            return False
        if self._book != other._book or self._plan != other._plan:
            return False
        return self._events == other._events
