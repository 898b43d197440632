"""Weights of forests, added up in one sweep over the houses.

The sweep takes house by house, with the lines to houses taken before. It
keeps a table: for each state, the weights of all forests so far in that state.
The frontier is the lot of the houses taken that have a line to one not yet
taken. A state is a pair: a joining of the houses of the frontier, by clubs,
and for each of them the label of its club.

A house may have a label, a number; NONE is for all others. Only forests count
in which houses with the same label are in one club, and houses with unlike
labels are not. Weights are lists: with step 1, by how many lines the forest
has; with step 0, all added in one.
"""

from howeverled.joinings import joined_two

NONE = -1


def frontier_by(lines, early):
    """The lot of those of the early houses that have a line to another one."""
    taken = {house: True for house in early}
    ends = []
    for one, other, _ in lines:
        if (one in taken) != (other in taken):
            ends.append(one if one in taken else other)
    return sorted(set(ends))


def breadth_by(lines, order):
    """The greatest number of houses in a frontier of the order."""
    return max([len(frontier_by(lines, order[:many])) for many in range(len(order))])


def order_for(size, lines):
    """An order with narrow frontiers: the own sequence of a narrow web, otherwise house by house the narrowest."""
    own = list(range(size))
    if breadth_by(lines, own) <= 4:
        return own
    order = []
    while len(order) < size:
        left = [house for house in own if house not in order]
        widths = [len(frontier_by(lines, [*order, house])) for house in left]
        order.append(left[widths.index(min(widths))])
    return min([own, order], key=lambda one: breadth_by(lines, one))


def sweep(lines, order, labels, step, again=1):
    """The tables before the first house of the order, and behind each one.

    again is 1; with 0 a forest counts only if no line leads between two
    houses that its lines before have joined already.
    """
    table = {((), ()): [1]}
    tables = [table]
    frontier = []
    for many, house in enumerate(order, start=1):
        awaited = [labels[later] for later in order[many:]]
        before = frontier
        frontier = frontier_by(lines, order[:many])
        held = sorted([*before, house])
        table = with_house(table, held.index(house), labels[house])
        # A house goes at once behind its last line: the fewer are held, the fewer states there are.
        for other in (*before, house):
            for room in rooms_between(lines, house, other):
                table = with_line(table, held.index(house), held.index(other), room, step, again)
            if other not in frontier:
                table = without_house(table, held.index(other), awaited)
                held = [one for one in held if one != other]
        tables.append(table)
    return tables


def rooms_between(lines, here, there):
    """The rooms of the lines between two houses; none between a house and itself."""
    ends = (min(here, there), max(here, there))
    return [room for one, other, room in lines if (one, other) == ends]


def forest_sums(size, lines, labels, step):
    """The weights of all forests that count, as a list."""
    table = sweep(lines, order_for(size, lines), labels, step)[-1]
    return table.get(((), ()), [0])


def directed_ways(size, pairs):
    """How many ways there are to direct lines between these pairs so that no row of them leads back to its start.

    There are as many as forests that hold no broken ring: a ring without its last line.
    """
    lines = [(one, other, 1) for one, other in pairs]
    table = sweep(lines, order_for(size, lines), [NONE] * size, 0, 0)[-1]
    return sum(table[((), ())])


def joining_like(values):
    """The joining of the places with the same value."""
    return tuple([values.index(value) for value in values])


def with_house(table, place, label):
    """The table with one more house in the frontier, at this place, a club by itself."""
    grown = {}
    for (joining, marks), weights in table.items():
        wider = joining_like((*joining[:place], NONE, *joining[place:]))
        key = (wider, (*marks[:place], label, *marks[place:]))
        grown[key] = weights
    return grown


def with_line(table, here, there, room, step, again):
    """The table with a line between the houses at two places of the frontier."""
    grown = {key: weights for key, weights in table.items() if again == 1 or key[0][here] != key[0][there]}
    for (joining, marks), weights in table.items():
        key = state_joined(joining, marks, here, there)
        if key is not None:
            more = [0] * step + [weight * room for weight in weights]
            grown[key] = added(grown.get(key, []), more)
    return grown


def state_joined(joining, marks, here, there):
    """The state with the clubs at two places made one, None if they are one or must not be."""
    if joining[here] == joining[there]:
        return None
    if marks[here] != marks[there] and NONE not in (marks[here], marks[there]):
        return None
    mark = max(marks[here], marks[there])
    joined = joined_two(joining, here, there)
    return (joined, tuple([mark if least == joined[here] else old for least, old in zip(joined, marks)]))


def without_house(table, place, awaited):
    """The table with the house at this place gone from the frontier; awaited are the labels of houses to come."""
    kept = {}
    for (joining, marks), weights in table.items():
        key = state_without(joining, marks, place, awaited)
        if key is not None:
            kept[key] = added(kept.get(key, []), weights)
    return kept


def state_without(joining, marks, place, awaited):
    """The state without the house at this place, None if its club ends apart from others with its label."""
    rest = joining[:place] + joining[place + 1:]
    others = marks[:place] + marks[place + 1:]
    ends = joining[place] not in rest
    if ends and marks[place] != NONE and (marks[place] in others or marks[place] in awaited):
        return None
    return (joining_like(rest), others)


def added(one, other):
    """The two lists of weights, added place by place; they may be unlike long."""
    short, long = (one, other) if len(one) < len(other) else (other, one)
    return [weight + more for weight, more in zip(long, short)] + long[len(short):]
