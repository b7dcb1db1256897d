"""The instances that a plan asks of a book, and sound plans."""

from lateeditions.bearing import MOST_BETWEEN, check_many, late_inputs, late_steps
from lateeditions.common import is_one_of, lot_moves, reached
from lateeditions.errors import BadDeed
from lateeditions.machines import (
    CARRY, check_place, is_deed_at, is_input_row, is_place, led_by, lots_among,
    place_lots, place_moves, places_come,
)
from lateeditions.plans import EVER, check_fence

TWICE = "twice"
SWAP = "swap"
LATE = "late"
DROP = "drop"


def asked_words(plan):
    """The words of the instances that a plan asks, in their sequence."""
    if plan.way != "letter":
        return [CARRY] if plan.stamp or plan.window is not None else [CARRY, TWICE]
    if plan.stamp:
        return [CARRY, DROP]
    return [CARRY, SWAP] if plan.window == EVER else [CARRY, SWAP, LATE]


def compared(moves, node, word):
    """The tuples (deeds, one, other) of the instances with this word, but "late", at a node.

    one and other are the nodes to which the two rows that the instance compares lead.
    """
    behind = moves[node]
    deeds = [label for label in behind if label != CARRY]
    if word == CARRY and CARRY not in behind:
        return []
    if word == CARRY:
        return [((one,), moves[behind[one]][CARRY], moves[behind[CARRY]][one]) for one in deeds]
    if word == TWICE:
        return [((one,), moves[behind[one]][one], behind[one]) for one in deeds]
    if word == DROP:
        return [((one, other), moves[behind[one]][other], behind[other]) for one in deeds for other in deeds]
    return [
        ((one, other), moves[behind[one]][other], moves[behind[other]][one])
        for at, one in enumerate(deeds) for other in deeds[at + 1:]
    ]


def is_fenced(plan, word, deeds):
    """Whether a plan does not ask an instance because of its fence."""
    return word == CARRY and deeds[0] in plan.fence


def late_deeds(plan):
    """How many deeds stand in the row of a late instance that a plan asks."""
    return 0 if plan.window is None else plan.window


class Ground:
    """What all plans in a book stand on: the lots of its places that can come, and what fails there."""

    def __init__(self, book):
        moves = place_moves(book)
        self.lots = lots_among(book, places_come(book, moves), moves)
        self.behind = lot_moves(self.lots, moves)
        self._faults = {}
        self._steps = {}
        self._late_depths = {}

    def faults(self, word, lot):
        """The deeds of the instances with this word, but "late", that fail at a lot."""
        if (word, lot) not in self._faults:
            told = compared(self.behind, lot, word)
            self._faults[(word, lot)] = [deeds for deeds, one, other in told if one != other]
        return self._faults[(word, lot)]

    def has_faults(self, word):
        """Whether an instance with this word, but "late", fails anywhere."""
        for lot in self.behind:
            if self.faults(word, lot):
                return True
        return False

    def wrong(self, word):
        """The list of the tuples (lot, deeds) of the instances with this word, but "late", that fail."""
        return [(lot, deeds) for lot in self.behind for deeds in self.faults(word, lot)]

    def steps(self, many, fenced):
        """What late_steps tells of the lots, kept for the next deed."""
        if (many, fenced) not in self._steps:
            self._steps[(many, fenced)] = late_steps(self.lots, self.behind, many, fenced)
        return self._steps[(many, fenced)]

    def late_depths(self, fenced):
        """What most_late tells, kept for the next plan."""
        if fenced not in self._late_depths:
            self._late_depths[fenced] = most_late(self, fenced)
        return self._late_depths[fenced]


def most_late(ground, fenced):
    """The dict from deeds to the most deeds, up to twelve, in the row of a late instance of them that fails.

    Deeds of which none fails are left out. It tells of deeds that change places with all deeds, and
    unless they are fenced with carries, too.
    """
    # What stands behind such a deed and its repeat may stand ahead of both. So a late instance fails
    # just if the deed can not be done twice where the row that stands in it leads.
    wrong = [(lot, deeds[0]) for lot, deeds in ground.wrong(TWICE)]
    editions = sorted({deed[0] for _, deed in wrong})
    depths = {edition: lot_depths(ground.lots, ground.behind, edition, fenced) for edition in editions}
    late = {}
    for lot, deed in wrong:
        late[deed] = max(late.get(deed, 0), depths[deed[0]][lot])
    return late


def lot_depths(lots, behind, edition, fenced):
    """The dict from the lots of an edition, and of newer ones, to the most deeds, up to twelve, of rows there.

    The rows begin in these editions, too, and have carries unless these are fenced.
    """
    ahead = sorted({lot for place, lot in lots.items() if place[0] >= edition})
    depths = {lot: 0 for lot in ahead}
    many = 0
    while many < MOST_BETWEEN:
        before = ahead
        ahead = lots_ahead(behind, before, fenced)
        # With each deed some lots go, and do not come again; if none goes, any number of deeds leads there.
        many = MOST_BETWEEN if ahead == before else many + 1
        depths.update({lot: many for lot in ahead})
    return depths


def lots_ahead(behind, lots, fenced):
    """The ascending list of the lots to which a deed, and carries unless these are fenced, lead some."""
    ahead = sorted({target for lot in lots for label, target in behind[lot].items() if label != CARRY})
    if fenced:
        return ahead
    return sorted(reached(ahead, lambda lot: [behind[lot][CARRY]] if CARRY in behind[lot] else []))


def failing(book, plan):
    """The list of the failing instances that a plan asks, of the late ones one for each deed."""
    check_fence(book, plan)
    ground = Ground(book)
    return [
        instance
        for word in asked_words(plan) for place in ground.lots
        for instance in failing_at(ground, plan, word, place)
    ]


def first_failing(book, plan):
    """The first one of these instances, or None."""
    check_fence(book, plan)
    ground = Ground(book)
    for word in asked_words(plan):
        for place in ground.lots:
            found = failing_at(ground, plan, word, place)
            if found:
                return found[0]
    return None


def failing_at(ground, plan, word, place):
    """The failing instances with this word that a plan asks at a place, of the late ones one for each deed."""
    lot = ground.lots[place]
    if word == LATE:
        rows = [(deed, late_inputs_of(ground, plan, lot, deed)) for deed in ground.behind[lot] if deed != CARRY]
        return [(word, place, deed, row) for deed, row in rows if row is not None]
    return [(word, place) + deeds for deeds in ground.faults(word, lot) if not is_fenced(plan, word, deeds)]


def late_inputs_of(ground, plan, lot, deed):
    """The row of a failing late instance of a deed that a plan asks, or None."""
    return late_inputs(ground.behind, ground.steps(late_deeds(plan), deed in plan.fence), lot, deed)


def is_failing(book, plan, value):
    """Whether any value is a failing instance that a plan asks."""
    check_fence(book, plan)
    if not is_like_asked(book, plan, value):
        return False
    ground = Ground(book)
    if value[1] not in ground.lots:
        return False
    if value[0] == LATE:
        return is_late_row(book, plan, value) and fails_late(ground, value)
    return value in failing_at(ground, plan, value[0], value[1])


def fails_late(ground, instance):
    _, place, deed, row = instance
    once = led_by(ground.behind, ground.lots[place], [deed])
    twice = led_by(ground.behind, once, [deed])
    return led_by(ground.behind, twice, row) != led_by(ground.behind, once, row)


def is_like_asked(book, plan, value):
    """Whether any value is a tuple of a word of a plan's instances, a place, a deed and perhaps more."""
    if not isinstance(value, tuple) or not 3 <= len(value) <= 4:
        return False
    word, place, deed = value[:3]
    if not is_one_of(word, asked_words(plan)) or not is_place(book, place):
        return False
    if not is_deed_at(book, place[0], deed):
        return False
    return word == LATE or all([is_deed_at(book, place[0], other) for other in value[3:]])


def is_late_row(book, plan, instance):
    """Whether the last part of a late instance is a row that a plan asks."""
    if len(instance) < 4:
        return False
    _, place, deed, row = instance
    if not is_input_row(book, place[0], row):
        return False
    carries = row.count(CARRY)
    if carries > 0 and deed in plan.fence:
        return False
    return len(row) - carries == late_deeds(plan)


def is_sound(book, plan):
    """Whether no instance that a plan asks fails."""
    check_fence(book, plan)
    return is_sound_on(Ground(book), plan)


def is_sound_on(ground, plan):
    needed = needed_fence(ground, plan)
    return needed is not None and all([deed in plan.fence for deed in needed])


def needed_fence(ground, plan):
    """The ascending list of the deeds that a plan's fence must have to be sound, or None if none is enough."""
    words = asked_words(plan)
    if any([ground.has_faults(word) for word in words if word not in (CARRY, LATE)]):
        return None
    needed = [deeds[0] for _, deeds in ground.wrong(CARRY)]
    if LATE in words:
        many = late_deeds(plan)
        late = [deed for deed, most in ground.late_depths(False).items() if most >= many]
        # The rows that stand behind a deed in the fence are among those of one that is not.
        if any([ground.late_depths(True)[deed] >= many for deed in late]):
            return None
        needed += late
    return sorted(set(needed))


def late_row(book, place, deed, many, fenced):
    """A row of inputs with so many deeds for which a late instance fails, or None."""
    check_place(book, place)
    if not is_deed_at(book, place[0], deed):
        raise BadDeed(deed)
    check_many(many)
    lots = place_lots(book)
    behind = lot_moves(lots, place_moves(book))
    return late_inputs(behind, late_steps(lots, behind, many, fenced), lots[place], deed)
