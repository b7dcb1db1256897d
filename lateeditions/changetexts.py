"""Programs of changes, and books of editions compiled from programs."""

from lateeditions.books import MOST_DESKS, Book, Change, all_sights, is_change_row
from lateeditions.common import is_one_of
from lateeditions.compiling import compiled
from lateeditions.errors import BadBook, BadChange, BadEye, BadInput
from lateeditions.machines import CARRY, is_taken
from lateeditions.programs import (
    are_cases, begins, check_program, check_values, deed_names, first_holding, is_program, is_tuple,
    numbers_of, register_names, settled, shown_names, values_behind,
)


def is_change(first, second, value):
    """Whether any value is a program of a change between two programs."""
    check_program(first)
    check_program(second)
    return is_change_between(first, second, value)


def is_change_between(first, second, value):
    if not is_tuple(value, 3, 3):
        return False
    cases, rows, eyes = value
    if not are_cases(cases, register_names(first), register_names(second)):
        return False
    if not are_told_rows(rows, deed_names(first), deed_names(second)):
        return False
    return are_told_eyes(eyes, shown_names(second), shown_names(first))


def are_pairs(value, names):
    """Whether any value is a tuple of pairs that begin with these names, in their sequence."""
    if not is_tuple(value, len(names), len(names)):
        return False
    return all([is_tuple(pair, 2, 2) and is_one_of(pair[0], (name,)) for pair, name in zip(value, names)])


def are_told_rows(value, elder, newer):
    return are_pairs(value, elder) and all([is_told_row(pair[1], newer) for pair in value])


def is_told_row(value, newer):
    return isinstance(value, tuple) and is_change_row(value, newer)


def are_told_eyes(value, newer, elder):
    return are_pairs(value, newer) and all([is_one_of(pair[1], elder) for pair in value])


def check_change(first, second, value):
    if not is_change_between(first, second, value):
        raise BadChange(value)


def carried(first, second, change, values):
    """The values of the newer program to which those of the elder one are carried."""
    check_program(first)
    check_program(second)
    check_change(first, second, change)
    check_values(first, values)
    return values_carried(first, second, change, values)


def values_carried(first, second, change, values):
    cases = change[0]
    numbers = numbers_of(first, values)
    position = first_holding(cases, numbers)
    settings = () if position is None else cases[position][1]
    return settled(second[0], begins(second), settings, numbers)


def check_told(programs, changes):
    """Refuses any values that are not programs, and as many programs of changes less one."""
    if not are_programs(programs):
        raise BadBook(programs)
    if not isinstance(changes, (list, tuple)) or len(changes) != len(programs) - 1:
        raise BadBook(changes)
    for number, change in enumerate(changes):
        check_change(programs[number], programs[number + 1], change)


def are_programs(value):
    if not isinstance(value, (list, tuple)) or not 1 <= len(value) <= MOST_DESKS:
        return False
    return all([is_program(program) for program in value])


def compiled_book(programs, changes):
    """The tuple (book, values) of programs and the programs of changes between them."""
    check_told(programs, changes)
    desk, worth = compiled(programs[0])
    desks, worths, links = [desk], [worth], []
    for number, change in enumerate(changes):
        first, second = programs[number], programs[number + 1]
        more = [values_carried(first, second, change, values) for values in worths[number]]
        desk, worth = compiled(second, more=more)
        names = dict(zip(worth, desk.standings))
        links.append(desk_change(desks[number], desk, change, [names[values] for values in more]))
        desks.append(desk)
        worths.append(worth)
    return (Book(desks, links), tuple(worths))


def desk_change(first, second, change, targets):
    """The change between two compiled desks; targets has where each standing is carried."""
    sights = all_sights(second)
    elder = all_sights(first)
    eyes = {name: other for name, other in change[2] if name in sights}
    for name, other in eyes.items():
        if other not in elder:
            raise BadEye(name)
    return Change(first, second, dict(zip(first.standings, targets)), dict(change[1]), eyes)


def led_directly(programs, changes, row):
    """The tuple (edition, values) behind a row of inputs, reckoned by the programs alone."""
    check_told(programs, changes)
    if not isinstance(row, list):
        raise BadInput(0)
    deeds = [deed_names(program) for program in programs]
    edition = 0
    values = begins(programs[0])
    for position, one in enumerate(row):
        if not is_taken(deeds, edition, one):
            raise BadInput(position)
        if one == CARRY:
            first, second = programs[edition], programs[edition + 1]
            values = values_carried(first, second, changes[edition], values)
            edition += 1
        else:
            values = values_by(programs, changes, (edition, values), one)
    return (edition, values)


def values_by(programs, changes, place, one):
    """The values behind a deed; an elder one is played by its row, each deed of it likewise."""
    edition, values = place
    number, deed = one
    if number == edition:
        return values_behind(programs[edition], values, deed)
    for newer in dict(changes[number][1])[deed]:
        values = values_by(programs, changes, (edition, values), (number + 1, newer))
    return values
