"""What rows of events come to, and what was done and was due of a key."""

from lateeditions.errors import NotNow
from lateeditions.machines import CARRY
from lateeditions.shelves import Shelf, check_name


def outcome(book, plan, events):
    """The outcome of a row of events."""
    shelf = Shelf(book, plan)
    for position, event in enumerate(events):
        try:
            shelf.do(event)
        except NotNow:
            return ("impossible", position)
    if not shelf.quiet:
        return ("busy", tuple(sorted(shelf.line + shelf.shelved)))
    keys = sorted({event[1] for event in events if event[0] == "send"})
    harmed = [key for key in keys if shows_otherwise(shelf, key)]
    return ("harm", tuple(harmed)) if harmed else ("fine",)


def shows_otherwise(shelf, key):
    """Whether another sight is seen at a key's place than at its due place."""
    one, other = shelf.shown(key)
    return one != other


def steps(book, plan, events):
    """The list of the tuples (event, account, letter); letter is None for a carry."""
    shelf = Shelf(book, plan)
    told = []
    for event in events:
        account = shelf.do(event)
        letter = None if event == (CARRY,) else shelf.letter(account[1])
        told.append((event, account, letter))
    return told


def done_and_due(book, plan, events, key):
    """The tuple of the row of inputs that a key's place took, and that its due place took."""
    told = steps(book, plan, events)
    check_name(key)
    done = []
    due = []
    for _, account, letter in told:
        if letter is None:
            done.append(CARRY)
            due.append(CARRY)
        elif letter[0] == key and account[0] == "sent":
            due.append(letter[1])
        elif letter[0] == key and account[0] == "played" and account[2] == "done":
            done.append(letter[1])
    return (done, due)


def cut_to(book, plan, events, key):
    """The row of events cut to a key: what has to do with its letters, and the carries."""
    told = steps(book, plan, events)
    check_name(key)
    return [event for event, _, letter in told if letter is None or letter[0] == key]


def one_key(book, plan, events):
    """The tuple (key, row) of the least key that shows otherwise, and the row cut to it, or None."""
    found = outcome(book, plan, events)
    if found[0] != "harm":
        return None
    key = found[1][0]
    return (key, cut_to(book, plan, events, key))
