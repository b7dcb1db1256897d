"""Papers: pairs of places that show that a plan is sound."""

from lateeditions.common import first_met, reached
from lateeditions.conditions import LATE, asked_words, compared, is_fenced, late_deeds
from lateeditions.machines import CARRY, book_come, deeds_at, is_place, place_moves, place_sights
from lateeditions.plans import check_fence


def paper_of(book, plan):
    """A paper of a plan, or None if it is not sound."""
    return least_paper(book, plan)


def least_paper(book, plan):
    """The paper of the fewest tuples, or None if the plan is not sound."""
    check_fence(book, plan)
    moves = place_moves(book)
    sights = place_sights(book)
    order = {place: at for at, place in enumerate(book_come(book))}

    def ordered(pairs):
        rows = [sorted(pair, key=lambda place: order[place]) for pair in pairs]
        return [(one, other) for one, other in rows if one != other]

    def led_pairs(pair):
        return ordered(pairs_led(moves, pair))

    paper = reached(ordered(asked_pairs(book, plan, moves)), led_pairs)
    if any([sights[one] != sights[other] for one, other in paper]):
        return None
    return sorted(paper, key=lambda pair: (order[pair[0]], order[pair[1]]))


def pair_behind(moves, pair, label):
    return (moves[pair[0]][label], moves[pair[1]][label])


def pairs_led(moves, pair):
    """The pairs to which the inputs that its places take lead a pair."""
    return [pair_behind(moves, pair, label) for label in moves[pair[0]]]


def asked_pairs(book, plan, moves):
    """The pairs to which the rows of the instances that a plan asks lead."""
    pairs = []
    for word in asked_words(plan):
        if word == LATE:
            pairs += late_pairs(book, plan, moves, False) + late_pairs(book, plan, moves, True)
        else:
            pairs += plain_pairs(book, plan, moves, word)
    return pairs


def plain_pairs(book, plan, moves, word):
    """The pairs of the instances with a word that is not "late"."""
    return [
        (one, other)
        for place in book_come(book) for deeds, one, other in compared(moves, place, word)
        if not is_fenced(plan, word, deeds)
    ]


def late_pairs(book, plan, moves, fenced):
    """The pairs of the late instances whose deeds are in the fence, or of all others."""
    pairs = []
    for place in book_come(book):
        for deed in [deed for deed in deeds_at(book, place[0]) if (deed in plan.fence) == fenced]:
            once = moves[place][deed]
            pairs.append((moves[once][deed], once))
    for left in reversed(range(late_deeds(plan) + 1)):
        if not fenced:
            pairs = reached(pairs, lambda pair: carried_pairs(moves, pair))
        if left > 0:
            pairs = first_met([led for pair in pairs for led in deed_pairs(moves, pair)])
    return pairs


def carried_pairs(moves, pair):
    """The pair behind a carry, in a list; none if the places do not take one."""
    return [pair_behind(moves, pair, CARRY)] if CARRY in moves[pair[0]] else []


def deed_pairs(moves, pair):
    """The pairs behind one deed."""
    return [pair_behind(moves, pair, label) for label in moves[pair[0]] if label != CARRY]


def is_paper(book, plan, value):
    """Whether any value is a paper of a plan."""
    check_fence(book, plan)
    if not isinstance(value, list) or not all([is_place_pair(book, pair) for pair in value]):
        return False
    members = {pair: True for one, other in value for pair in ((one, other), (other, one))}
    if len(members) < 2 * len(value):
        return False
    sights = place_sights(book)
    if any([sights[one] != sights[other] for one, other in value]):
        return False
    moves = place_moves(book)
    needed = asked_pairs(book, plan, moves) + [led for pair in value for led in pairs_led(moves, pair)]
    return all([one == other or (one, other) in members for one, other in needed])


def is_place_pair(book, value):
    """Whether any value is a tuple of two different places of one edition."""
    if not isinstance(value, tuple) or len(value) != 2:
        return False
    one, other = value
    if not is_place(book, one) or not is_place(book, other):
        return False
    return one[0] == other[0] and one != other
