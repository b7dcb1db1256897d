"""Carries of several keys, one by one, that are stopped amid and gone on with."""

from lateeditions.back import check_back, pairs_behind
from lateeditions.common import events_left, is_name, is_one_of
from lateeditions.errors import BadKey, BadKeys, NotNow
from lateeditions.likeness import desk_lots

MOST_KEYS = 4
ROUND_KEY = "k"


class Round:
    """A round of a change: at first no key is carried."""

    def __init__(self, change, keys):
        if not are_keys(change, keys):
            raise BadKeys(keys)
        self._change = change
        self._keys = {key: keys[key] for key in keys}
        self._begin()

    def _begin(self):
        """Sets all as it is ahead of the first event."""
        self._events = []
        self._standings = {key: (0, standing) for key, standing in self._keys.items()}
        self._dues = {key: self._change.carried(standing) for key, standing in self._keys.items()}
        self._homes = {key: self._keys[key] for key in self._keys}

    def do(self, event):
        """Lets an event happen."""
        if not self._is_possible(event):
            raise NotNow(event)
        self._happen(event)

    def _is_possible(self, event):
        if not isinstance(event, tuple) or not 2 <= len(event) <= 3:
            return False
        word, key = event[:2]
        if not is_one_of(key, self._keys):
            return False
        is_carried = self._standings[key][0] == 1
        if len(event) == 2:
            return is_one_of(word, ("carry",)) and not is_carried
        if is_one_of(word, ("newer",)):
            return is_carried and is_one_of(event[2], self._change.second.deeds)
        return is_one_of(word, ("deed",)) and is_one_of(event[2], self._change.first.deeds)

    def _happen(self, event):
        self._events.append(event)
        if event[0] == "carry":
            self._carry(event[1])
        elif event[0] == "newer":
            self._do_newer(event[1], [event[2]])
            self._homes[event[1]] = None
        else:
            self._do_elder(event[1], event[2])

    def _carry(self, key):
        self._standings[key] = (1, self._change.carried(self._standings[key][1]))

    def _do_newer(self, key, row):
        """Does a row of deeds of the second desk with a key that is carried."""
        desk = self._change.second
        self._standings[key] = (1, desk.lead(self._standings[key][1], row))
        self._dues[key] = desk.lead(self._dues[key], row)

    def _do_elder(self, key, deed):
        """Does a deed of the first desk: by its row, where the key is carried."""
        desk = self._change.first
        row = self._change.row(deed)
        if self._homes[key] is not None:
            self._homes[key] = desk.lead(self._homes[key], [deed])
        edition, standing = self._standings[key]
        if edition == 1:
            self._do_newer(key, row)
        else:
            self._standings[key] = (0, desk.lead(standing, [deed]))
            self._dues[key] = self._change.second.lead(self._dues[key], row)

    def left(self):
        """The ascending list of the keys that are not carried."""
        return sorted([key for key in self._keys if self._standings[key][0] == 0])

    def standing(self, key):
        """The tuple (0, standing of the first desk) or (1, standing of the second one)."""
        self._check_key(key)
        return self._standings[key]

    def due(self, key):
        """The standing of the second desk, had all been carried at first."""
        self._check_key(key)
        return self._dues[key]

    def home(self, key):
        """The standing of the first desk without a carry; None behind deeds of the second desk."""
        self._check_key(key)
        return self._homes[key]

    def _check_key(self, value):
        if not is_one_of(value, self._keys):
            raise BadKey(value)

    def give_up(self, back):
        """The dict from all keys to standings of the first desk, led back by a map where carried."""
        check_back(self._change, back)
        return {
            key: back[standing] if edition == 1 else standing
            for key, (edition, standing) in self._standings.items()
        }

    def history(self):
        """The list of the events."""
        return list(self._events)

    def undo(self, many):
        """Takes back so many of the last events."""
        kept = events_left(self._events, many)
        self._begin()
        for event in kept:
            self._happen(event)


def are_keys(change, value):
    """Whether any value is a dict from one to four names to standings that can come."""
    if not isinstance(value, dict) or not 1 <= len(value) <= MOST_KEYS:
        return False
    come = change.first.come()
    return all([is_name(key) and is_one_of(value[key], come) for key in value])


def round_harm(change):
    """A row of events of one key by which a round harms, or None."""
    numbers = desk_lots(change.second)
    start = change.first.start
    for pair, row in pairs_behind(change, (start, change.carried(start))).items():
        if numbers[change.carried(pair[0])] != numbers[pair[1]]:
            return [("deed", ROUND_KEY, deed) for deed in row] + [("carry", ROUND_KEY)]
    return None
