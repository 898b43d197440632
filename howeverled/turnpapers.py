"""Turns between splits with the same purses."""

from howeverled.checks import is_house, need, need_split
from howeverled.errors import InvalidPaper
from howeverled.flows import held_by, led, lessened, narrowest, walk_on
from howeverled.kinds import is_split, is_tuple_of
from howeverled.rings import can_lead, leads_back


def turns_between(web, split, other):
    """Turns that lead split to other, all of them together in one direction on each line."""
    size, lines = web
    need_split(web, split)
    need(is_split(web, other) and held_by(size, lines, split) == held_by(size, lines, other), "other")
    change = [after - before for before, after in zip(split, other)]
    turns = []
    while any(change):
        turn = turn_in(lines, change)
        _, ring, coins = turn
        turns.append(turn)
        change = lessened(change, ring, coins)
    return tuple(turns)


def turn_in(lines, change):
    """A turn by which coins go as in the change, with so many that one of its lines is done.

    So each turn has a line that none behind it has: there are no more turns
    than rings that do not follow from one another.
    """
    line = [place for place, coins in enumerate(change) if coins != 0][0]
    houses, way = walk_on(lines, change, lines[line][0], {})
    first = houses.index(houses[-1])
    ring = tuple(way[first:])
    return (houses[-1], ring, narrowest(change, ring))


def lets_turns(web, split, thing):
    """The split behind all these turns."""
    need_split(web, split)
    if not isinstance(thing, tuple):
        raise InvalidPaper("shape", -1)
    near = split
    for place, turn in enumerate(thing):
        word = turn_fault(web, near, turn)
        if word is not None:
            raise InvalidPaper(word, place)
        house, ring, coins = turn
        near = led(web[1], near, house, ring, coins)
    return tuple(near)


def turn_fault(web, near, turn):
    """The word for the first thing that is wrong with the turn, None if it can be led."""
    if not is_tuple_of(3, turn):
        return "shape"
    house, ring, coins = turn
    if not is_house(web[0], house):
        return "house"
    if not leads_back(web, house, ring):
        return "ring"
    return None if can_lead(web, near, house, ring, coins) else "coins"
