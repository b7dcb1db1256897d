"""The errors of the package: each keeps what it is made with, as it is."""


class DeskError(ValueError):
    """The base of all errors of this package."""


class BadStandings(DeskError):
    def __init__(self, value):
        self.value = value


class BadDeeds(DeskError):
    def __init__(self, value):
        self.value = value


class BadSights(DeskError):
    def __init__(self, value):
        self.value = value


class BadStanding(DeskError):
    def __init__(self, value):
        self.value = value


class BadRow(DeskError):
    def __init__(self, position):
        self.position = position


class BadProgram(DeskError):
    def __init__(self, value):
        self.value = value


class BadValues(DeskError):
    def __init__(self, value):
        self.value = value


class NoDeed(DeskError):
    def __init__(self, value):
        self.value = value


class BadText(DeskError):
    def __init__(self, spot):
        self.spot = spot


class BadEye(DeskError):
    def __init__(self, value):
        self.value = value


class TooMany(DeskError):
    def __init__(self, limit):
        self.limit = limit


class BadPlaces(DeskError):
    def __init__(self, value):
        self.value = value


class BadRows(DeskError):
    def __init__(self, value):
        self.value = value


class BadEyes(DeskError):
    def __init__(self, value):
        self.value = value


class BadDeed(DeskError):
    def __init__(self, value):
        self.value = value


class BadSight(DeskError):
    def __init__(self, value):
        self.value = value


class BadDesks(DeskError):
    def __init__(self, value):
        self.value = value


class BadChanges(DeskError):
    def __init__(self, value):
        self.value = value


class BadEdition(DeskError):
    def __init__(self, value):
        self.value = value


class BadPlace(DeskError):
    def __init__(self, value):
        self.value = value


class BadInput(DeskError):
    def __init__(self, position):
        self.position = position


class BadChange(DeskError):
    def __init__(self, value):
        self.value = value


class BadBook(DeskError):
    def __init__(self, value):
        self.value = value


class BadNumber(DeskError):
    def __init__(self, value):
        self.value = value


class BadLink(DeskError):
    def __init__(self, value):
        self.value = value


class TooLong(DeskError):
    def __init__(self, deed):
        self.deed = deed


class BadMap(DeskError):
    def __init__(self, value):
        self.value = value


class BadVector(DeskError):
    def __init__(self, value):
        self.value = value


class BadNotes(DeskError):
    def __init__(self, value):
        self.value = value


class BadKeys(DeskError):
    def __init__(self, value):
        self.value = value


class BadKey(DeskError):
    def __init__(self, value):
        self.value = value


class BadPlan(DeskError):
    def __init__(self, value):
        self.value = value


class BadFence(DeskError):
    def __init__(self, value):
        self.value = value


class NotNow(DeskError):
    def __init__(self, value):
        self.value = value


class BadName(DeskError):
    def __init__(self, value):
        self.value = value


class BadLetter(DeskError):
    def __init__(self, value):
        self.value = value


class BadMark(DeskError):
    def __init__(self, value):
        self.value = value


class TooFar(DeskError):
    def __init__(self, count):
        self.count = count


class BadLog(DeskError):
    def __init__(self, position):
        self.position = position


class BadChain(DeskError):
    def __init__(self, value):
        self.value = value


class BadPlans(DeskError):
    def __init__(self, value):
        self.value = value


class BadSeat(DeskError):
    def __init__(self, value):
        self.value = value


class BadEvent(DeskError):
    def __init__(self, position):
        self.position = position


class InvalidCommand(DeskError):
    def __init__(self, words):
        self.words = words


class NoHouse(DeskError):
    def __init__(self, words):
        self.words = words


class NotFailing(DeskError):
    def __init__(self, value):
        self.value = value
