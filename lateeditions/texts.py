"""Texts of one line: rows, events, plans and logs, there and back."""

from lateeditions.common import is_int, is_name
from lateeditions.errors import BadText
from lateeditions.machines import CARRY
from lateeditions.plans import EVER, MOST_TRIES, MOST_WINDOW, WAYS, Plan, is_count
from lateeditions.shelves import HOWS

MOST_DIGITS = 60
NONE = "none"
ARROW = "=>"
END = ""
EVENTS = ("send", "work", "replay", CARRY)
ACCOUNTS = ("sent", "played", "failed", "carried")


def is_number(token):
    """Whether a string is an integer of not too many digits, without leading zeros."""
    if not 1 <= len(token) <= MOST_DIGITS or not all(["0" <= sign <= "9" for sign in token]):
        return False
    return token == "0" or token[0] != "0"


def deed_of(token):
    """The deed that a token tells, or None."""
    number, _, name = token.partition(".")
    return (int(number), name) if is_number(number) and is_name(name) else None


def words_of(line):
    """The list of the pairs (token, column) of a line, with its end."""
    tokens = []
    column = 1
    for word in line.split(" "):
        if word != "":
            tokens.append((word, column))
        column += len(word) + 1
    return tokens + [(END, len(line.rstrip(" ")) + 1)]


class Line:
    """The tokens of a line of a text, taken one by one."""

    def __init__(self, line, number):
        self._tokens = words_of(line)
        self._number = number
        self._at = 0

    def peek(self):
        return self._tokens[self._at][0]

    def refuse(self):
        raise BadText((self._number, self._tokens[self._at][1]))

    def take(self, found):
        """The token, if it is found to fit: it is behind the line's place then."""
        token = self.peek()
        if not found(token):
            self.refuse()
        self._at += 1
        return token

    def take_one_of(self, words):
        return self.take(lambda token: token in words)

    def take_number(self):
        return int(self.take(is_number))

    def take_deed(self):
        return deed_of(self.take(lambda token: deed_of(token) is not None))

    def take_end(self):
        self.take_one_of((END,))


def line_of(text):
    """The line of any value that is a text of one line."""
    check_text(text)
    return Line(text, 1)


def check_text(value):
    if not isinstance(value, str):
        raise BadText((1, 1))


def format_deed(deed):
    return f"{deed[0]}.{deed[1]}"


def format_deeds(deeds):
    """The text of deeds, or of none."""
    return " ".join([format_deed(deed) for deed in deeds]) or NONE


def format_row(row):
    """The text of a row of inputs."""
    return " ".join([CARRY if one == CARRY else format_deed(one) for one in row]) or NONE


def parse_row(text):
    """The row of inputs of a text."""
    line = line_of(text)
    row = []
    if line.peek() == NONE:
        line.take_one_of((NONE,))
    else:
        row.append(take_input(line))
        while line.peek() != END:
            row.append(take_input(line))
    line.take_end()
    return row


def take_input(line):
    return line.take_one_of((CARRY,)) if line.peek() == CARRY else line.take_deed()


def format_event(event):
    """The text of an event."""
    if event[0] == "send":
        return f"send {event[1]} {format_deed(event[2])}"
    return " ".join(event)


def parse_event(text):
    """The event of a text."""
    line = line_of(text)
    event = take_event(line)
    line.take_end()
    return event


def take_event(line):
    word = line.take_one_of(EVENTS)
    if word == CARRY:
        return (word,)
    if word == "send":
        key = line.take(is_name)
        return (word, key, line.take_deed())
    return (word, line.take_one_of(HOWS))


def format_plan(plan):
    """The text of a plan."""
    window = NONE if plan.window is None else plan.window
    stamp = "yes" if plan.stamp else "no"
    fence = format_deeds(plan.fence)
    return f"way {plan.way} tries {plan.tries} window {window} stamp {stamp} fence {fence}"


def parse_plan(text):
    """The plan of a text."""
    line = line_of(text)
    line.take_one_of(("way",))
    way = line.take_one_of(WAYS)
    line.take_one_of(("tries",))
    tries = int(line.take(lambda token: is_count_to(token, MOST_TRIES)))
    line.take_one_of(("window",))
    window = take_window(line)
    line.take_one_of(("stamp",))
    stamp = line.take_one_of(("yes", "no")) == "yes"
    line.take_one_of(("fence",))
    fence = take_fence(line)
    line.take_end()
    return Plan(way, tries=tries, window=window, stamp=stamp, fence=fence)


def is_count_to(token, most):
    return is_number(token) and is_count(int(token), most)


def take_window(line):
    token = line.take(lambda word: word in (NONE, EVER) or is_count_to(word, MOST_WINDOW))
    if token == NONE:
        return None
    return token if token == EVER else int(token)


def take_fence(line):
    """The ascending deeds of a fence, or none."""
    if line.peek() == NONE:
        line.take_one_of((NONE,))
        return []
    fence = [line.take_deed()]
    while line.peek() != END:
        deed = deed_of(line.peek())
        if deed is None or deed <= fence[-1]:
            line.refuse()
        fence.append(line.take_deed())
    return fence


def format_account(account):
    """The text of an account."""
    if account[0] == "played":
        _, number, word, noted = account
        end = "noted" if noted else "kept"
        return f"played {number} {word} {end}"
    return " ".join([str(part) if is_int(part) else part for part in account])


def take_account(line):
    word = line.take_one_of(ACCOUNTS)
    number = line.take_number()
    if word == "played":
        left = line.take_one_of(("done", "left"))
        return (word, number, left, line.take_one_of(("noted", "kept")) == "noted")
    if word == "failed":
        return (word, number, line.take_one_of(("stays", "shelved")))
    return (word, number)


def format_log(log):
    """The text of a log, a line for each entry."""
    return "\n".join([f"{format_event(event)} {ARROW} {format_account(account)}" for event, account in log])


def parse_log(text):
    """The log of a text."""
    check_text(text)
    lines = text.split("\n")
    if all([line.strip(" ") == "" for line in lines]):
        return []
    return [take_entry(Line(line, number)) for number, line in enumerate(lines, 1)]


def take_entry(line):
    event = take_event(line)
    line.take_one_of((ARROW,))
    account = take_account(line)
    line.take_end()
    return (event, account)
