"""What several files need: kinds of values, what is reached, shortest rows, lots, events left."""

from lateeditions.errors import TooFar


def is_int(value):
    return isinstance(value, int) and not isinstance(value, bool)


def is_name(value):
    if not isinstance(value, str) or not 1 <= len(value) <= 8:
        return False
    return all(["a" <= letter <= "z" for letter in value])


def is_one_of(value, names):
    """Whether any value is one of some strings."""
    return isinstance(value, str) and value in names


def are_different(names):
    return len(set(names)) == len(names)


def is_table(value, keys):
    """Whether any value is a dict with just these keys, different strings."""
    if not isinstance(value, dict) or len(value) != len(keys):
        return False
    return all([key in value for key in keys])


def first_met(things):
    """The different ones of some things, in the sequence in which they come first."""
    return list({thing: True for thing in things})


def add_new(states, met, others):
    """Puts those of the others that are not met yet behind the states."""
    for state in others:
        if state not in met:
            met[state] = True
            states.append(state)


def reached(firsts, targets):
    """The states to which targets(state) leads on from the firsts, each where it is met first.

    All to which one of the firsts leads stand ahead of the next one.
    """
    states = []
    met = {}
    at = 0
    for first in firsts:
        add_new(states, met, [first])
        while at < len(states):
            add_new(states, met, targets(states[at]))
            at += 1
    return states


def spread(start, moves, found):
    """The tuple (rows, state): the labels on shortest ways from start, and a nearest state found.

    moves(state) tells the list of the pairs (label, state behind it). Nothing is looked at behind
    the state that is found; it is None if none is, and rows are those to all states then.
    """
    rows = {start: []}
    queue = [start]
    at = 0
    while at < len(queue):
        state = queue[at]
        at += 1
        if found(state):
            return (rows, state)
        for label, target in moves(state):
            if target not in rows:
                rows[target] = rows[state] + [label]
                queue.append(target)
    return (rows, None)


def shortest_row(start, moves, found):
    """The labels on a shortest way from start to a state that is found, or None."""
    rows, state = spread(start, moves, found)
    return None if state is None else rows[state]


def shortest_rows(start, moves):
    """The dict from all states to which start is led to the labels on shortest ways there."""
    return spread(start, moves, lambda state: False)[0]


def parting(one, other, signs, moves):
    """A shortest row of labels behind which two nodes have different signs, or None.

    moves is a dict from nodes to dicts from labels to nodes.
    """
    def differ(pair):
        return signs[pair[0]] != signs[pair[1]]

    def led_pairs(pair):
        return [(label, (node, moves[pair[1]][label])) for label, node in moves[pair[0]].items()]

    return shortest_row((one, other), led_pairs, differ)


def numbered(nodes, signs):
    """The dict from nodes to numbers of their signs, counted as they come first."""
    numbers = {}
    lots = {}
    for node in nodes:
        lots[node] = numbers.setdefault(signs[node], len(numbers))
    return lots


def lot_numbers(nodes, signs, moves):
    """The dict from nodes to the numbers of their lots: the same signs behind all rows.

    Nodes of one sign take the same labels, in the same sequence.
    """
    behind = {node: [node] + list(moves[node].values()) for node in nodes}
    lots = numbered(nodes, signs)
    many = 0
    while many < count_lots(lots) < len(nodes):
        many = count_lots(lots)
        lots = numbered(nodes, {node: tuple([lots[one] for one in behind[node]]) for node in nodes})
    return lots


def count_lots(lots):
    return len(set(list(lots.values())))


def lot_moves(lots, moves):
    """The dict from the lots of nodes to dicts from labels to the lots behind them."""
    heads = {lot: node for node, lot in lots.items()}
    return {
        lot: {label: lots[target] for label, target in moves[node].items()}
        for lot, node in heads.items()
    }


def gathered(nodes, lots):
    """The list of the lists of nodes of one lot, by their first ones."""
    table = {lots[node]: [] for node in nodes}
    for node in nodes:
        table[lots[node]].append(node)
    return list(table.values())


def events_left(events, number):
    """The list of events without so many of the last ones; other numbers, any values, are refused."""
    many = len(events)
    if not is_int(number) or not 0 <= number <= many:
        raise TooFar(many)
    return events[:many - number]
