"""The console: a line told, an answer."""

from lateeditions.changes import keeps_deeds, keeps_eyes
from lateeditions.changetexts import compiled_book
from lateeditions.enough import least_fence
from lateeditions.errors import BadChange, BadNumber, InvalidCommand, NoHouse
from lateeditions.harming import harm_of
from lateeditions.houses import House
from lateeditions.logs import house_of
from lateeditions.plans import Plan
from lateeditions.printing import format_change, format_program
from lateeditions.reading import parse_change, parse_program
from lateeditions.texts import (
    EVENTS, NONE, format_account, format_deeds, format_event, format_log, format_plan, is_number,
    parse_event, parse_log, parse_plan,
)

OK = "ok"
BREAK = " / "
# Beginnings of lines whose rest is a text.
EDITION = "edition : "
CHANGE = "change : "
PLAN = "plan "
READ = "read "
# What stands behind the first word of a line: n an N, k a KEY, w any word.
FORMS = {
    "clear": "", "open": "", "programs": "", "plan": "", "harm": "", "fence": "",
    "show": "n", "change": "n", "desk": "n", "right": "n",
}
HOUSE_FORMS = {
    "edition": "", "line": "", "shelf": "", "quiet": "", "mark": "", "log": "", "back": "n", "undo": "n",
    "look": "kn", "due": "kn", "send": "kw", "work": "w", "replay": "w", "carry": "",
}


def is_form(words, form):
    """Whether the words behind a line's first one have a form, None being none."""
    if form is None or len(words) != len(form) + 1:
        return False
    return all([is_fitting(word, kind) for word, kind in zip(words[1:], form)])


def is_fitting(word, kind):
    if kind == "n":
        return is_number(word)
    return kind == "w" or word != ""


def in_lines(text):
    return text.replace(BREAK, "\n")


def in_one_line(text):
    return text.replace("\n", BREAK)


def numbers_text(numbers):
    return " ".join([str(number) for number in numbers]) or NONE


class Console:
    """Programs, changes, a plan and perhaps a house; at first there is nothing but a plan."""

    def __init__(self):
        self._clear()

    def _clear(self):
        self._programs = []
        # The change to each edition but the first one, None where it was not told.
        self._changes = []
        self._plan = Plan("letter")
        self._house = None

    def execute(self, line):
        """The answer to a line."""
        if not isinstance(line, str):
            raise InvalidCommand(line)
        words = line.split(" ")
        if line.startswith(EDITION):
            return self._add(in_lines(line[len(EDITION):]))
        if line.startswith(CHANGE):
            return self._tell_change(in_lines(line[len(CHANGE):]))
        if line.startswith(PLAN):
            return self._tell_plan(line[len(PLAN):])
        if is_form(words, FORMS.get(words[0])):
            return self._answer_number(words) if len(words) > 1 else self._answer(words[0])
        if not line.startswith(READ) and not is_form(words, HOUSE_FORMS.get(words[0])):
            raise InvalidCommand(line)
        if self._house is None:
            raise NoHouse(line)
        if line.startswith(READ):
            return self._read(line[len(READ):])
        return house_answer(self._house, line, words)

    def _add(self, text):
        program = parse_program(text)
        if self._programs:
            self._changes.append(None)
        self._programs.append(program)
        self._house = None
        return OK

    def _tell_change(self, text):
        if len(self._programs) < 2:
            raise BadNumber(0)
        self._changes[-1] = parse_change(self._programs[-2], self._programs[-1], text)
        self._house = None
        return OK

    def _tell_plan(self, text):
        self._plan = parse_plan(text)
        self._house = None
        return OK

    def _read(self, text):
        log = [] if text == NONE else parse_log(in_lines(text))
        self._house = house_of(self._house.book, self._house.plan, log)
        return OK

    def _answer(self, word):
        """The answer to a line of one word that needs no house."""
        if word == "clear":
            self._clear()
            return OK
        if word == "programs":
            return str(len(self._programs))
        if word == "plan":
            return format_plan(self._plan)
        book = self._compiled()[0]
        if word == "open":
            self._house = House(book, self._plan)
            return OK
        if word == "harm":
            events = harm_of(book, self._plan)
            return NONE if events is None else "; ".join([format_event(event) for event in events])
        fence = least_fence(book, self._plan)
        return "never" if fence is None else format_deeds(fence)

    def _compiled(self):
        return compiled_book(list(self._programs), list(self._changes))

    def _answer_number(self, words):
        """The answer to a line of a word and the number of an edition."""
        word = words[0]
        number = int(words[1])
        least = 1 if word in ("change", "right") else 0
        if not least <= number < len(self._programs):
            raise BadNumber(number)
        if word == "show":
            return in_one_line(format_program(self._programs[number]))
        if word == "change":
            return self._change_text(number)
        book, values = self._compiled()
        return desk_text(book, values, number) if word == "desk" else kept_text(book, number - 1)

    def _change_text(self, number):
        change = self._changes[number - 1]
        if change is None:
            raise BadChange(None)
        return in_one_line(format_change(change))


def desk_text(book, values, number):
    """The standings of an edition, with their sights and values."""
    desk = book.desks[number]
    rows = []
    for standing, told in zip(desk.standings, values[number]):
        numbers = ",".join([str(one) for one in told])
        rows.append(f"{standing} {desk.sight(standing)} {numbers}")
    return "; ".join(rows)


def kept_text(book, number):
    """What a change does not keep, deeds ahead of eyes."""
    if not keeps_deeds(book, number):
        return "deeds"
    return "right" if keeps_eyes(book, number) else "eyes"


def house_answer(house, line, words):
    """The answer to a line that is for a house."""
    word = words[0]
    if word in EVENTS:
        return format_account(house.do(parse_event(line)))
    if len(words) == 1:
        return house_state(house, word)
    if word == "look":
        return house.look(words[1], int(words[2]))
    if word == "due":
        return house.due_look(words[1], int(words[2]))
    if word == "back":
        house.back(int(words[1]))
    else:
        house.undo(int(words[1]))
    return OK


def house_state(house, word):
    """The answer to a line of one word about a house."""
    if word == "edition":
        return str(house.edition)
    if word == "line":
        return numbers_text(house.line)
    if word == "shelf":
        return numbers_text(house.shelved)
    if word == "quiet":
        return "yes" if house.quiet else "no"
    if word == "mark":
        return str(house.mark())
    return in_one_line(format_log(house.log())) or NONE
