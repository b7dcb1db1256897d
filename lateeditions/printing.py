"""Programs, and programs of changes, as canonical texts."""

from lateeditions.programs import check_program

SUMS = ("+", "-")
LOOSEST = ("or",)
BOTH = ("and", "or")
NOTHING = "none"


def term_text(term):
    if isinstance(term, int):
        return str(term)
    if isinstance(term, str):
        return term
    sign, one, other = term
    if sign not in SUMS:
        return f"{sign} ({term_text(one)}, {term_text(other)})"
    return f"{term_text(one)} {sign} {second_text(other)}"


def second_text(term):
    """The text of a term behind + or -, where a sum would be read with what is ahead."""
    if isinstance(term, tuple) and term[0] in SUMS:
        return f"({term_text(term)})"
    return term_text(term)


def condition_text(condition):
    sign = condition[0]
    if sign == "not":
        return f"not {within(condition[1], BOTH)}"
    if sign == "and":
        return f"{within(condition[1], LOOSEST)} and {within(condition[2], BOTH)}"
    if sign == "or":
        return f"{condition_text(condition[1])} or {within(condition[2], LOOSEST)}"
    return f"{term_text(condition[1])} {sign} {term_text(condition[2])}"


def within(condition, loose):
    """The text of a condition within another one, in brackets if its sign is a loose one."""
    text = condition_text(condition)
    return f"({text})" if condition[0] in loose else text


def case_text(condition, settings):
    told = ", ".join([f"{name} = {term_text(term)}" for name, term in settings]) or NOTHING
    does = f"do {told}"
    return does if condition is None else f"when {condition_text(condition)} {does}"


def cases_text(cases):
    return "; ".join([case_text(condition, settings) for condition, settings in cases]) or NOTHING


def row_text(row):
    return " ".join(row) or NOTHING


def show_text(condition, name):
    return name if condition is None else f"when {condition_text(condition)} {name}"


def format_program(program):
    """The canonical text of a program."""
    check_program(program)
    registers, deeds, shows = program
    lines = [f"register {name} 0 to {top} from {begin}" for name, top, begin in registers]
    lines += [f"deed {name}: {cases_text(cases)}" for name, cases in deeds]
    told = "; ".join([show_text(condition, name) for condition, name in shows])
    return "\n".join(lines + [f"show: {told}"])


def format_change(value):
    """The canonical text of a program of a change."""
    cases, rows, eyes = value
    lines = [f"carry: {cases_text(cases)}"]
    lines += [f"play {deed}: {row_text(row)}" for deed, row in rows]
    lines += [f"see {name} as {other}" for name, other in eyes]
    return "\n".join(lines)
