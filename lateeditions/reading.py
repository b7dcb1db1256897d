"""Programs, and programs of changes, read from texts."""

from lateeditions.errors import BadText
from lateeditions.programs import (
    COMPARISONS, MOST_CASES, MOST_DEEDS, MOST_LEVELS, MOST_PARTS, MOST_REGISTERS, MOST_SHOWS,
    MOST_TOP, MOST_VALUES, check_program, deed_names, is_program_name, register_names, shown_names,
)

SIGNS = ":;,=+-()"
MOST_BRACKETS = 12
MOST_ROW = 16
END_OF_LINE = "\n"
END_OF_TEXT = ""
DEPTHS = {"(": 1, ")": -1}
STOPS = ("is", "below", "not", "and", "or", "\n")


def is_letter(character):
    return "a" <= character <= "z"


def is_digit(character):
    return "0" <= character <= "9"


def is_integer_row(digits):
    return digits == "0" or len(digits) <= 2 and digits[0] != "0"


def row_end(line, at, belongs):
    """Where the longest row of characters that belong together, from a place on, ends."""
    while at < len(line) and belongs(line[at]):
        at += 1
    return at


def token_end(line, at):
    """Where the token that begins at a place ends, None if none begins there."""
    if is_letter(line[at]):
        return row_end(line, at, is_letter)
    if is_digit(line[at]):
        end = row_end(line, at, is_digit)
        return end if is_integer_row(line[at:end]) else None
    return at + 1 if line[at] in SIGNS else None


def tokens_of(line, number):
    """The list of the pairs (token, spot) of a line, with its end; integers are ints."""
    tokens = []
    at = 0
    while at < len(line):
        if line[at] == " ":
            at += 1
        else:
            end = token_end(line, at)
            if end is None:
                raise BadText((number, at + 1))
            token = line[at:end]
            tokens.append((int(token) if is_digit(token[0]) else token, (number, at + 1)))
            at = end
    if tokens:
        tokens.append((END_OF_LINE, (number, len(line.rstrip(" ")) + 1)))
    return tokens


class Reader:
    """The tokens of a text, taken one by one; those of a line are made when its turn comes."""

    def __init__(self, text):
        self._lines = text.split("\n")
        self._number = 0
        self._tokens = []
        self._at = 0
        self._within = 0
        self._turn()

    def _turn(self):
        """Goes to the next line with tokens, or to the end of the text."""
        self._tokens = []
        self._at = 0
        while not self._tokens and self._number < len(self._lines):
            self._number += 1
            self._tokens = tokens_of(self._lines[self._number - 1], self._number)
        if not self._tokens:
            self._tokens = [(END_OF_TEXT, (len(self._lines) + 1, 1))]

    def peek(self):
        return self._tokens[self._at][0]

    def where(self):
        return self._tokens[self._at][1]

    def refuse(self):
        raise BadText(self.where())

    def take(self):
        """The next token, which is behind the reader then."""
        token = self.peek()
        if token == END_OF_LINE:
            self._turn()
        else:
            self._at += 1
        return token

    def expect(self, token):
        if self.peek() != token:
            self.refuse()
        self.take()

    def enter(self):
        """Takes a bracket that opens."""
        if self.peek() != "(" or self._within == MOST_BRACKETS:
            self.refuse()
        self._within += 1
        self.take()

    def leave(self):
        """Takes a bracket that closes."""
        self.expect(")")
        self._within -= 1

    def take_one_of(self, tokens):
        if self.peek() not in tokens:
            self.refuse()
        return self.take()

    def take_number(self, most):
        token = self.peek()
        if not isinstance(token, int) or token > most:
            self.refuse()
        return self.take()

    def take_name(self, given):
        """A name that is not given yet."""
        if not is_program_name(self.peek()) or self.peek() in given:
            self.refuse()
        return self.take()

    def is_at_condition(self):
        """Whether a bracket opens here that is a condition's, not a term's."""
        if self.peek() != "(":
            return False
        at = self._at + 1
        depth = 1
        while depth > 0 and self._tokens[at][0] not in STOPS:
            depth += DEPTHS.get(self._tokens[at][0], 0)
            at += 1
        return depth > 0 and self._tokens[at][0] != END_OF_LINE


def whole(sign, pieces):
    """The piece (tree, levels, parts) made of others.

    A tree of too many levels is left out: nothing is nested deeper than a value may be.
    """
    levels = 1 + max([piece[1] for piece in pieces])
    parts = 1 + sum([piece[2] for piece in pieces])
    tree = None if levels > MOST_LEVELS else tuple([sign] + [piece[0] for piece in pieces])
    return (tree, levels, parts)


def read_term(reader, names):
    """The piece of a sum."""
    piece = read_term_part(reader, names)
    while reader.peek() in ("+", "-"):
        sign = reader.take()
        piece = whole(sign, [piece, read_term_part(reader, names)])
    return piece


def read_term_part(reader, names):
    token = reader.peek()
    if token == "(":
        reader.enter()
        piece = read_term(reader, names)
        reader.leave()
        return piece
    if token in ("min", "max"):
        return read_pick(reader, names)
    if not isinstance(token, int) and token not in names:
        reader.refuse()
    return (reader.take(), 1, 1)


def read_pick(reader, names):
    """The piece of a min or max."""
    sign = reader.take()
    reader.enter()
    one = read_term(reader, names)
    reader.expect(",")
    other = read_term(reader, names)
    reader.leave()
    return whole(sign, [one, other])


def read_condition(reader, names):
    piece = read_both(reader, names)
    while reader.peek() == "or":
        sign = reader.take()
        piece = whole(sign, [piece, read_both(reader, names)])
    return piece


def read_both(reader, names):
    """The piece of conditions with "and" between."""
    piece = read_condition_part(reader, names)
    while reader.peek() == "and":
        sign = reader.take()
        piece = whole(sign, [piece, read_condition_part(reader, names)])
    return piece


def read_condition_part(reader, names):
    nots = 0
    while reader.peek() == "not":
        reader.take()
        nots += 1
    piece = read_bare_condition(reader, names)
    for _ in range(nots):
        piece = whole("not", [piece])
    return piece


def read_bare_condition(reader, names):
    if reader.is_at_condition():
        reader.enter()
        piece = read_condition(reader, names)
        reader.leave()
        return piece
    one = read_term(reader, names)
    sign = reader.take_one_of(COMPARISONS)
    return whole(sign, [one, read_term(reader, names)])


def sized(reader, names, read):
    """The tree of a term or condition, refused at its first token if it is too large."""
    spot = reader.where()
    tree, levels, parts = read(reader, names)
    if levels > MOST_LEVELS or parts > MOST_PARTS:
        raise BadText(spot)
    return tree


def read_when(reader, names):
    """The condition that stands here, or None."""
    if reader.peek() != "when":
        return None
    reader.take()
    return sized(reader, names, read_condition)


def read_case(reader, names, settable):
    condition = read_when(reader, names)
    reader.expect("do")
    return (condition, read_settings(reader, names, settable))


def read_settings(reader, names, settable):
    if reader.peek() == "none":
        reader.take()
        return ()
    settings = {}
    while True:
        name = reader.take_one_of([one for one in settable if one not in settings])
        reader.expect("=")
        settings[name] = sized(reader, names, read_term)
        if reader.peek() != ",":
            return tuple(settings.items())
        reader.take()


def read_cases(reader, names, settable):
    """The cases that stand behind ":", with the end of the line."""
    reader.expect(":")
    cases = []
    if reader.peek() == "none":
        reader.take()
    else:
        cases.append(read_case(reader, names, settable))
    while cases and reader.peek() == ";":
        reader.take()
        if len(cases) == MOST_CASES:
            reader.refuse()
        cases.append(read_case(reader, names, settable))
    reader.expect(END_OF_LINE)
    return tuple(cases)


def has_more(reader, rows, word, most):
    """Whether one more line with this word stands here, or must: there is at least one."""
    if rows and reader.peek() != word:
        return False
    if len(rows) == most:
        reader.refuse()
    reader.expect(word)
    return True


def read_registers(reader):
    registers = []
    room = MOST_VALUES
    while has_more(reader, registers, "register", MOST_REGISTERS):
        name = reader.take_name([row[0] for row in registers])
        reader.expect(0)
        reader.expect("to")
        top = reader.take_number(min(MOST_TOP, room - 1))
        room = room // (top + 1)
        reader.expect("from")
        registers.append((name, top, reader.take_number(top)))
        reader.expect(END_OF_LINE)
    return tuple(registers)


def read_deeds(reader, names):
    deeds = []
    while has_more(reader, deeds, "deed", MOST_DEEDS):
        name = reader.take_name([row[0] for row in deeds])
        deeds.append((name, read_cases(reader, names, names)))
    return tuple(deeds)


def read_shows(reader, names):
    reader.expect("show")
    reader.expect(":")
    shows = []
    while not shows or shows[-1][0] is not None:
        if shows:
            reader.expect(";")
        if len(shows) == MOST_SHOWS:
            reader.refuse()
        condition = read_when(reader, names)
        shows.append((condition, reader.take_name([])))
    reader.expect(END_OF_LINE)
    return tuple(shows)


def reader_of(text):
    if not isinstance(text, str):
        raise BadText((1, 1))
    return Reader(text)


def parse_program(text):
    """The program of a text."""
    reader = reader_of(text)
    registers = read_registers(reader)
    names = [row[0] for row in registers]
    deeds = read_deeds(reader, names)
    shows = read_shows(reader, names)
    reader.expect(END_OF_TEXT)
    return (registers, deeds, shows)


def read_row(reader, deed, newer):
    """The line of an elder deed's row."""
    reader.expect("play")
    reader.expect(deed)
    reader.expect(":")
    row = []
    if reader.peek() == "none":
        reader.take()
    else:
        row.append(reader.take_one_of(newer))
    while row and reader.peek() != END_OF_LINE:
        if len(row) == MOST_ROW:
            reader.refuse()
        row.append(reader.take_one_of(newer))
    reader.expect(END_OF_LINE)
    return (deed, tuple(row))


def read_eye(reader, name, elder):
    """The line that tells as what elder eyes see a name."""
    reader.expect("see")
    reader.expect(name)
    reader.expect("as")
    other = reader.take_one_of(elder)
    reader.expect(END_OF_LINE)
    return (name, other)


def parse_change(first, second, text):
    """The program of a change from the first program to the second one, of a text."""
    check_program(first)
    check_program(second)
    reader = reader_of(text)
    reader.expect("carry")
    cases = read_cases(reader, register_names(first), register_names(second))
    rows = [read_row(reader, deed, deed_names(second)) for deed in deed_names(first)]
    eyes = [read_eye(reader, name, shown_names(first)) for name in shown_names(second)]
    reader.expect(END_OF_TEXT)
    return (cases, tuple(rows), tuple(eyes))
