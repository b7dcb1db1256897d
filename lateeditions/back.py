"""Maps back of a change, and falls where there is none."""

from lateeditions.books import are_places
from lateeditions.desks import desk_moves
from lateeditions.errors import BadMap
from lateeditions.finding import is_deed_row
from lateeditions.forced import led_along, pair_rows, played_leads
from lateeditions.likeness import desk_lots
from lateeditions.machines import come_rows


def check_back(change, value):
    """Refuses any value that is no map back of a change."""
    if not are_places(change.second, change.first, value):
        raise BadMap(value)


def rows_of(change):
    """The dict from the deeds of the first desk to the rows by which they are played."""
    return {deed: change.row(deed) for deed in change.first.deeds}


def carried_pairs(change):
    """The dict from the pairs (standing that can come, carried one) to rows that lead to the first."""
    first = change.first
    rows = come_rows(desk_moves(first), first.start)
    return {(standing, change.carried(standing)): rows[standing] for standing in first.come()}


def pairs_behind(change, pair):
    """The dict from the pairs that come of one, when deeds are played by rows, to such deeds."""
    return pair_rows(change.first, change.second, rows_of(change), pair)


def lasting_pairs(change):
    """The dict from the pairs that go together to tuples of rows (ahead, behind) that lead there."""
    told = {}
    for pair, ahead in carried_pairs(change).items():
        for later, behind in pairs_behind(change, pair).items():
            if later not in told:
                told[later] = (list(ahead), behind)
    return told


def map_of(change, pairs):
    """A map that leads the second ones of all pairs to ones alike to the first ones, or None."""
    places = {standing: change.first.start for standing in change.second.standings}
    for one, other in pairs:
        places[other] = one
    return places if leads_back(change, pairs, places) else None


def leads_back(change, pairs, places):
    """Whether a map back leads the second ones of all pairs to ones alike to the first ones."""
    numbers = desk_lots(change.first)
    return all([numbers[places[other]] == numbers[one] for one, other in pairs])


def fall_of(change, told):
    """What is told of two pairs with one second standing whose first ones are not alike, or None."""
    numbers = desk_lots(change.first)
    for one in told:
        for other in told:
            if are_falling(numbers, one, other):
                return (told[one], told[other])
    return None


def are_falling(numbers, one, other):
    """Whether two pairs have one second standing, and first ones that are not alike."""
    return one[1] == other[1] and numbers[one[0]] != numbers[other[0]]


def map_back(change):
    """A right map back, or None."""
    return map_of(change, list(carried_pairs(change)))


def is_map_back(change, value):
    """Whether any value is a right map back."""
    return is_map_of(change, carried_pairs(change), value)


def is_map_of(change, told, value):
    """Whether any value is a map back that leads back rightly what is told."""
    return are_places(change.second, change.first, value) and leads_back(change, list(told), value)


def fall(change):
    """A fall, or None."""
    return fall_of(change, carried_pairs(change))


def is_fall(change, value):
    """Whether any value is a fall."""
    if not are_rows(change, value):
        return False
    one, other = [pair_led(change, row, []) for row in value]
    return are_falling(desk_lots(change.first), one, other)


def are_rows(change, value):
    """Whether any value is a tuple of two rows of deeds of the first desk."""
    if not isinstance(value, tuple) or len(value) != 2:
        return False
    return all([is_deed_row(change.first, row) for row in value])


def pair_led(change, ahead, behind):
    """The pair of standings behind two rows of deeds, with the carry between them."""
    first = change.first
    leads = played_leads(first, change.second, rows_of(change))
    standing = first.lead(first.start, ahead)
    return (first.lead(standing, behind), led_along(leads, change.carried(standing), behind))


def lasting_back(change):
    """A map back that lasts, or None."""
    return map_of(change, list(lasting_pairs(change)))


def is_lasting_back(change, value):
    """Whether any value is a map back that lasts."""
    return is_map_of(change, lasting_pairs(change), value)


def lasting_fall(change):
    """A lasting fall, or None."""
    return fall_of(change, lasting_pairs(change))


def is_lasting_fall(change, value):
    """Whether any value is a lasting fall."""
    if not isinstance(value, tuple) or len(value) != 2:
        return False
    if not all([are_rows(change, rows) for rows in value]):
        return False
    one, other = [pair_led(change, ahead, behind) for ahead, behind in value]
    return are_falling(desk_lots(change.first), one, other)
