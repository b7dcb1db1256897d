"""Maps that rows force, quarrels of rows, eyes that go with a map, and its clashes."""

from lateeditions.books import MOST_ROW, Change, all_sights, are_places
from lateeditions.common import is_one_of, is_table, shortest_rows
from lateeditions.errors import BadRows, BadStanding
from lateeditions.finding import is_deed_row, rows_for
from lateeditions.likeness import desk_lots
from lateeditions.vectors import check_map


def check_rows(first, second, value):
    if not is_table(value, first.deeds) or not all([is_deed_row(second, row) for row in value.values()]):
        raise BadRows(value)


def check_begin(second, value):
    if not is_one_of(value, second.standings):
        raise BadStanding(value)


def played_leads(first, second, rows):
    """The dict from elder deeds to dicts between the newer standings by which they are played."""
    return {deed: {one: second.lead(one, rows[deed]) for one in second.standings} for deed in first.deeds}


def pair_rows(first, second, rows, pair):
    """The dict from pairs of standings to shortest rows of elder deeds that lead a pair there.

    The first one of a pair is led by the deeds, the second one by the rows by which they are played.
    """
    leads = played_leads(first, second, rows)

    def led_pairs(one):
        return [(deed, (first.lead(one[0], [deed]), leads[deed][one[1]])) for deed in first.deeds]

    return shortest_rows(pair, led_pairs)


def forced_map(first, second, rows, begin):
    """A map that goes with rows from a begin, or None."""
    if quarrel(first, second, rows, begin) is not None:
        return None
    places = {standing: second.start for standing in first.standings}
    for one, other in pair_rows(first, second, rows, (first.start, begin)):
        places[one] = other
    return places


def goes_with(first, second, rows, begin, value):
    """Whether any value is a map that goes with rows from a begin."""
    check_rows(first, second, rows)
    check_begin(second, begin)
    if not are_places(first, second, value):
        return False
    leads = played_leads(first, second, rows)
    pairs = [(value[first.start], begin)]
    for one in first.come():
        for deed in first.deeds:
            pairs.append((value[first.lead(one, [deed])], leads[deed][value[one]]))
    numbers = desk_lots(second)
    return all([numbers[one] == numbers[other] for one, other in pairs])


def quarrel(first, second, rows, begin):
    """A quarrel of rows from a begin, or None."""
    check_rows(first, second, rows)
    check_begin(second, begin)
    numbers = desk_lots(second)
    told = pair_rows(first, second, rows, (first.start, begin))
    for pair in told:
        for other in told:
            if pair[0] == other[0] and numbers[pair[1]] != numbers[other[1]]:
                return (told[pair], told[other])
    return None


def is_quarrel(first, second, rows, begin, value):
    """Whether any value is a quarrel of rows from a begin."""
    check_rows(first, second, rows)
    check_begin(second, begin)
    if not isinstance(value, tuple) or len(value) != 2:
        return False
    if not all([is_deed_row(first, row) for row in value]):
        return False
    one, other = [first.lead(first.start, row) for row in value]
    leads = played_leads(first, second, rows)
    newer, newest = [led_along(leads, begin, row) for row in value]
    numbers = desk_lots(second)
    return one == other and numbers[newer] != numbers[newest]


def led_along(leads, standing, row):
    for deed in row:
        standing = leads[deed][standing]
    return standing


def eyes_for(first, second, places):
    """Eyes that go with a map, or None."""
    if clash(first, second, places) is not None:
        return None
    eyes = {sight: first.sight(first.start) for sight in all_sights(second)}
    for one in first.come():
        eyes[second.sight(places[one])] = first.sight(one)
    return eyes


def clash(first, second, places):
    """Two elder standings of different sights that a map leads to one sight, or None."""
    check_map(first, second, places)
    come = first.come()
    for one in come:
        for other in come:
            if first.sight(one) != first.sight(other):
                if second.sight(places[one]) == second.sight(places[other]):
                    return (one, other)
    return None


def change_for(first, second, places):
    """A change with a map, shortest rows that answer the deeds, and eyes; or None."""
    rows = rows_for(first, second, places)
    eyes = eyes_for(first, second, places)
    if rows is None or eyes is None or any([len(row) > MOST_ROW for row in rows.values()]):
        return None
    return Change(first, second, places, rows, eyes)
