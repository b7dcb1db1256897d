"""Programs compiled to desks, and programs of desks."""

from lateeditions.common import is_table, parting
from lateeditions.desks import Desk
from lateeditions.errors import BadDeeds, BadSights, BadValues, TooMany
from lateeditions.programs import (
    are_values, begins, check_program, check_values, deed_names, is_program_name, sight_at,
    values_behind, values_to_come,
)

STANDINGS = "abcdefghi"
REGISTER = "state"


def compiled(program, *, more=()):
    """The tuple (desk, values) of a program, with further values to come from."""
    check_program(program)
    if not isinstance(more, (list, tuple)):
        raise BadValues(more)
    for values in more:
        check_values(program, values)
    worths = values_to_come(program, [begins(program)] + list(more))
    if len(worths) > len(STANDINGS):
        raise TooMany(len(STANDINGS))
    return (desk_of(program, worths), tuple(worths))


def desk_of(program, worths):
    """The desk whose standings stand for these values, to which all deeds lead them."""
    names = dict(zip(worths, STANDINGS))
    deeds = {
        deed: {names[worth]: names[values_behind(program, worth, deed)] for worth in worths}
        for deed in deed_names(program)
    }
    sights = {names[worth]: sight_at(program, worth) for worth in worths}
    return Desk(list(names.values()), deeds, sights)


def is_compiled(program, desk, value):
    """Whether any value tells for each standing of a desk the values it stands for."""
    check_program(program)
    if sorted(desk.deeds) != sorted(deed_names(program)) or not is_table(value, desk.standings):
        return False
    if not all([are_values(program, worth) for worth in value.values()]):
        return False
    if value[desk.start] != begins(program):
        return False
    return all([stands_for(program, desk, value, standing) for standing in desk.standings])


def stands_for(program, desk, worths, standing):
    """Whether a standing shows, and is led by deeds, as its values are."""
    worth = worths[standing]
    if desk.sight(standing) != sight_at(program, worth):
        return False
    return all([
        worths[desk.lead(standing, [deed])] == values_behind(program, worth, deed)
        for deed in desk.deeds
    ])


def same_programs(first, second):
    """None, or how two programs differ: ("deeds", name) or ("row", row)."""
    check_program(first)
    check_program(second)
    lone = sorted(set(deed_names(first)) ^ set(deed_names(second)))
    if lone:
        return ("deeds", lone[0])
    row = parted_by(first, second)
    return None if row is None else ("row", row)


def parted_by(first, second):
    """A shortest row behind which programs with the same deeds show otherwise, or None."""
    signs = {}
    moves = {}
    for number, program in enumerate([first, second]):
        for worth in values_to_come(program, [begins(program)]):
            signs[(number, worth)] = sight_at(program, worth)
            moves[(number, worth)] = {
                deed: (number, values_behind(program, worth, deed))
                for deed in deed_names(program)
            }
    return parting((0, begins(first)), (1, begins(second)), signs, moves)


def program_of(desk):
    """A program with one register that shows the same as a desk."""
    come = desk.come()
    check_names(desk, come)
    numbers = {standing: number for number, standing in enumerate(come)}
    deeds = [(deed, deed_cases(desk, deed, numbers)) for deed in desk.deeds]
    shows = [(("is", REGISTER, numbers[one]), desk.sight(one)) for one in come[:-1]]
    shows.append((None, desk.sight(come[-1])))
    return (((REGISTER, len(come) - 1, 0),), tuple(deeds), tuple(shows))


def check_names(desk, come):
    """Refuses the names of a desk that a program can not have."""
    for deed in desk.deeds:
        if not is_program_name(deed):
            raise BadDeeds(deed)
    for standing in come:
        if not is_program_name(desk.sight(standing)):
            raise BadSights(desk.sight(standing))


def deed_cases(desk, deed, numbers):
    """The cases of a deed, one for each standing that can come."""
    return tuple([
        (("is", REGISTER, number), ((REGISTER, numbers[desk.lead(standing, [deed])]),))
        for standing, number in numbers.items()
    ])
