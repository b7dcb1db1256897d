"""Desk programs: registers, deeds with cases, and what they show."""

from lateeditions.common import are_different, first_met, is_int, is_name, is_one_of, reached
from lateeditions.errors import BadProgram, BadRow, BadValues, NoDeed

WORDS = (
    "register", "deed", "show", "to", "from", "when", "do", "is", "below", "not",
    "and", "or", "min", "max", "carry", "play", "see", "as", "none",
)
TERM_SIGNS = ("+", "-", "min", "max")
COMPARISONS = ("is", "below")
JOINTS = ("and", "or")
MOST_REGISTERS = 3
MOST_TOP = 8
MOST_VALUES = 60
MOST_DEEDS = 4
MOST_CASES = 9
MOST_SETTINGS = 3
MOST_SHOWS = 9
MOST_LEVELS = 6
MOST_PARTS = 30
MOST_NUMBER = 99


def is_program_name(value):
    return is_name(value) and value not in WORDS


def is_tuple(value, least, most):
    return isinstance(value, tuple) and least <= len(value) <= most


def is_number_to(value, top):
    return is_int(value) and 0 <= value <= top


def is_program(value):
    """Whether any value is a program."""
    if not is_tuple(value, 3, 3):
        return False
    registers, deeds, shows = value
    if not are_registers(registers):
        return False
    names = first_parts(registers)
    return are_deeds(deeds, names) and are_shows(shows, names)


def first_parts(rows):
    """The names with which registers, deeds or settings begin."""
    return [row[0] for row in rows]


def tops(registers):
    return [row[1] for row in registers]


def are_registers(value):
    if not is_tuple(value, 1, MOST_REGISTERS) or not all([is_one_register(one) for one in value]):
        return False
    size = 1
    for top in tops(value):
        size = size * (top + 1)
    return size <= MOST_VALUES and are_different(first_parts(value))


def is_one_register(value):
    if not is_tuple(value, 3, 3) or not is_program_name(value[0]):
        return False
    return is_number_to(value[1], MOST_TOP) and is_number_to(value[2], value[1])


def are_deeds(value, names):
    if not is_tuple(value, 1, MOST_DEEDS) or not all([is_deed(one, names) for one in value]):
        return False
    return are_different(first_parts(value))


def is_deed(value, names):
    return is_tuple(value, 2, 2) and is_program_name(value[0]) and are_cases(value[1], names, names)


def are_cases(value, names, settable):
    """Whether any value is cases over registers of these names that set settable ones."""
    if not is_tuple(value, 0, MOST_CASES):
        return False
    return all([is_case(one, names, settable) for one in value])


def is_case(value, names, settable):
    if not is_tuple(value, 2, 2) or not is_condition_or_none(value[0], names):
        return False
    settings = value[1]
    if not is_tuple(settings, 0, MOST_SETTINGS):
        return False
    if not all([is_setting(one, names, settable) for one in settings]):
        return False
    return are_different(first_parts(settings))


def is_setting(value, names, settable):
    return is_tuple(value, 2, 2) and is_one_of(value[0], settable) and is_term(value[1], names)


def are_shows(value, names):
    if not is_tuple(value, 1, MOST_SHOWS) or not all([is_show(one, names) for one in value]):
        return False
    return value[-1][0] is None and all([show[0] is not None for show in value[:-1]])


def is_show(value, names):
    if not is_tuple(value, 2, 2) or not is_program_name(value[1]):
        return False
    return is_condition_or_none(value[0], names)


def is_term(value, names):
    return 1 <= term_parts(value, names, MOST_LEVELS) <= MOST_PARTS


def is_condition_or_none(value, names):
    return value is None or 1 <= condition_parts(value, names, MOST_LEVELS) <= MOST_PARTS


def term_parts(value, names, levels):
    """How many parts a term of at most so many levels has, 0 if the value is none."""
    if levels == 0:
        return 0
    if isinstance(value, str):
        return 1 if value in names else 0
    if is_tuple(value, 3, 3) and is_one_of(value[0], TERM_SIGNS):
        return parts_with([term_parts(one, names, levels - 1) for one in value[1:]])
    return 1 if is_number_to(value, MOST_NUMBER) else 0


def condition_parts(value, names, levels):
    """How many parts a condition of at most so many levels has, 0 if the value is none."""
    if levels == 0 or not is_tuple(value, 2, 3):
        return 0
    sign = value[0]
    if len(value) == 2:
        within = [condition_parts(value[1], names, levels - 1)]
        return parts_with(within) if is_one_of(sign, ("not",)) else 0
    if is_one_of(sign, COMPARISONS):
        return parts_with([term_parts(one, names, levels - 1) for one in value[1:]])
    if is_one_of(sign, JOINTS):
        return parts_with([condition_parts(one, names, levels - 1) for one in value[1:]])
    return 0


def parts_with(counts):
    """The parts of a whole whose pieces have so many; 0 if a piece is none."""
    return 0 if 0 in counts else 1 + sum(counts)


def is_values(program, value):
    """Whether any value is values of a program."""
    check_program(program)
    return are_values(program, value)


def are_values(program, value):
    registers = program[0]
    if not is_tuple(value, len(registers), len(registers)):
        return False
    return all([is_number_to(one, top) for one, top in zip(value, tops(registers))])


def check_program(value):
    if not is_program(value):
        raise BadProgram(value)


def check_values(program, value):
    if not are_values(program, value):
        raise BadValues(value)


def check_deed(program, value):
    if not is_one_of(value, deed_names(program)):
        raise NoDeed(value)


def register_names(program):
    return first_parts(program[0])


def deed_names(program):
    return first_parts(program[1])


def shown_names(program):
    """The names that a program's shows have, in the sequence in which they stand there first."""
    return first_met([row[1] for row in program[2]])


def reckoned(term, numbers):
    """The number of a term; numbers is a dict from the registers' names."""
    if isinstance(term, int):
        return term
    if isinstance(term, str):
        return numbers[term]
    one, other = [reckoned(part, numbers) for part in term[1:]]
    if term[0] == "+":
        return one + other
    if term[0] == "-":
        return one - other
    return min(one, other) if term[0] == "min" else max(one, other)


def holds(condition, numbers):
    if condition is None:
        return True
    sign = condition[0]
    if sign == "not":
        return not holds(condition[1], numbers)
    if sign == "and":
        return holds(condition[1], numbers) and holds(condition[2], numbers)
    if sign == "or":
        return holds(condition[1], numbers) or holds(condition[2], numbers)
    one, other = [reckoned(part, numbers) for part in condition[1:]]
    return one == other if sign == "is" else one < other


def numbers_of(program, values):
    return dict(zip(register_names(program), values))


def first_holding(pairs, numbers):
    """The position of the first pair whose condition holds, or None."""
    for position, pair in enumerate(pairs):
        if holds(pair[0], numbers):
            return position
    return None


def settled(registers, values, settings, numbers):
    """The values with settings whose terms are reckoned for numbers, within 0 and the tops."""
    told = {name: reckoned(term, numbers) for name, term in settings}
    return tuple([
        max(0, min(told[row[0]], row[1])) if row[0] in told else worth
        for row, worth in zip(registers, values)
    ])


def cases_of(program, deed):
    return program[1][deed_names(program).index(deed)][1]


def case_at(program, values, deed):
    return first_holding(cases_of(program, deed), numbers_of(program, values))


def values_behind(program, values, deed):
    position = case_at(program, values, deed)
    if position is None:
        return values
    settings = cases_of(program, deed)[position][1]
    return settled(program[0], values, settings, numbers_of(program, values))


def begins(program):
    return tuple([row[2] for row in program[0]])


def sight_at(program, values):
    shows = program[2]
    return shows[first_holding(shows, numbers_of(program, values))][1]


def values_to_come(program, firsts):
    """The values that can come from some values, in the sequence of a compiled desk."""
    deeds = deed_names(program)
    return reached(firsts, lambda values: [values_behind(program, values, deed) for deed in deeds])


def first_values(program):
    check_program(program)
    return begins(program)


def all_values(program):
    """The list of all values of a program, ascending."""
    check_program(program)
    rows = [()]
    for top in tops(program[0]):
        rows = [row + (number,) for row in rows for number in range(top + 1)]
    return rows


def shown(program, values):
    """The name that values show."""
    check_program(program)
    check_values(program, values)
    return sight_at(program, values)


def done(program, values, deed):
    """The values behind a deed."""
    check_program(program)
    check_values(program, values)
    check_deed(program, deed)
    return values_behind(program, values, deed)


def played(program, values, row):
    """The values behind a row of deeds."""
    check_program(program)
    check_values(program, values)
    if not isinstance(row, list):
        raise BadRow(0)
    for position, deed in enumerate(row):
        if not is_one_of(deed, deed_names(program)):
            raise BadRow(position)
        values = values_behind(program, values, deed)
    return values


def case_of(program, values, deed):
    """The position of the case that a deed does, or None."""
    check_program(program)
    check_values(program, values)
    check_deed(program, deed)
    return case_at(program, values, deed)


def idle_cases(program):
    """The pairs (deed, position) of the cases that are done at no values that can come."""
    check_program(program)
    come = values_to_come(program, [begins(program)])
    idle = []
    for deed, cases in program[1]:
        busy = [case_at(program, values, deed) for values in come]
        idle += [(deed, position) for position in range(len(cases)) if position not in busy]
    return idle
