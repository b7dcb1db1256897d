"""Desks: small tables that answer deeds."""

from lateeditions.common import are_different, is_name, is_one_of, is_table, reached
from lateeditions.errors import BadDeeds, BadRow, BadSights, BadStanding, BadStandings


class Desk:
    """A desk, as it is handed in: nothing changes it later."""

    def __init__(self, standings, deeds, sights):
        if not are_standings(standings):
            raise BadStandings(standings)
        if not are_deeds(deeds, standings):
            raise BadDeeds(deeds)
        if not are_sights(sights, standings):
            raise BadSights(sights)
        self._standings = tuple(standings)
        self._leads = {deed: {one: deeds[deed][one] for one in standings} for deed in deeds}
        self._sights = {one: sights[one] for one in standings}

    @property
    def standings(self):
        return self._standings

    @property
    def deeds(self):
        return tuple(self._leads)

    @property
    def start(self):
        return self._standings[0]

    def lead(self, standing, row):
        """The standing to which a row of deeds leads one."""
        if not is_one_of(standing, self._standings):
            raise BadStanding(standing)
        for position, deed in enumerate(row):
            if not is_one_of(deed, self._leads):
                raise BadRow(position)
            standing = self._leads[deed][standing]
        return standing

    def sight(self, standing):
        if not is_one_of(standing, self._standings):
            raise BadStanding(standing)
        return self._sights[standing]

    def come(self):
        """The list of the standings that can come, in the desk's sequence."""
        leads = list(self._leads.values())
        met = reached([self._standings[0]], lambda one: [lead[one] for lead in leads])
        return [standing for standing in self._standings if standing in met]

    def __eq__(self, other):
        if not isinstance(other, Desk):
            return False
        if self._standings != other._standings or self._sights != other._sights:
            return False
        return tuple(self._leads) == tuple(other._leads) and self._leads == other._leads


def are_standings(value):
    if not isinstance(value, (list, tuple)) or not 1 <= len(value) <= 9:
        return False
    return all([is_name(name) for name in value]) and are_different(value)


def are_deeds(value, standings):
    if not isinstance(value, dict) or not 1 <= len(value) <= 4:
        return False
    return all([is_name(name) and is_lead(value[name], standings) for name in value])


def is_lead(value, standings):
    """Whether any value is a dict from all standings to standings."""
    if not is_table(value, standings):
        return False
    return all([is_one_of(target, standings) for target in value.values()])


def are_sights(value, standings):
    return is_table(value, standings) and all([is_name(sight) for sight in value.values()])


def desk_leads(desk):
    """The dict from deeds to dicts from standings to those behind them."""
    return {deed: dict(lead) for deed, lead in desk._leads.items()}


def desk_moves(desk):
    """The dict from standings to dicts from deeds to the standings behind them."""
    leads = desk_leads(desk)
    return {one: {deed: leads[deed][one] for deed in leads} for one in desk.standings}


def desk_sights(desk):
    """The dict from standings to their sights."""
    return {standing: desk.sight(standing) for standing in desk.standings}
