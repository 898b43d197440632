"""Who can pay whom: reaches, peels and classes."""

from howeverled.checks import is_house, need, need_standing
from howeverled.flows import shortest_ways
from howeverled.joinings import joining_of
from howeverled.kinds import is_order, is_positive, is_tuple_of
from howeverled.mosts import table_by


def reached(lines, near, house, left):
    """The lot of the houses to which a coin can come from the house, within those that are left."""
    places = [place for place, (one, other, _) in enumerate(lines) if one in left and other in left]
    ways = shortest_ways([lines[place] for place in places], [near[place] for place in places], [house])
    return tuple(sorted(ways))


def far_of(lines, near):
    """What is far on each line: near with all coins led backwards."""
    return [room - coins for (_, _, room), coins in zip(lines, near)]


def reach_of(web, purses, house):
    """The reach of the house."""
    size, lines = web
    near = need_standing(web, purses)
    need(is_house(size, house), "house")
    return reached(lines, near, house, list(range(size)))


def payers_of(web, purses, house):
    """The lot of the house and of all that can pay it."""
    size, lines = web
    near = need_standing(web, purses)
    need(is_house(size, house), "house")
    return reached(lines, far_of(lines, near), house, list(range(size)))


def peel_of(web, purses, order):
    """The peel by the order."""
    near = need_standing(web, purses)
    need(is_order(web[0], order), "order")
    return peel_by(web, near, order, ["out"] * web[0])


def peel_either(web, purses, order, sides):
    """As the peel, but at the sides "in" those that can pay the house are taken with it."""
    near = need_standing(web, purses)
    need(is_order(web[0], order), "order")
    need(are_sides(web[0], sides), "sides")
    return peel_by(web, near, order, sides)


def are_sides(size, thing):
    """True for a tuple of "out" and "in", one for each house."""
    return is_tuple_of(size, thing) and all([side in ("out", "in") for side in thing])


def peel_by(web, near, order, sides):
    """The peel, by near of a split.

    On lines to a reach all coins lie at the other houses' ends, on lines to
    those that can pay a house none: so the same split serves what is left.
    """
    size, lines = web
    left = list(range(size))
    blocks = []
    for house, side in zip(order, sides):
        if house in left:
            ends = near if side == "out" else far_of(lines, near)
            block = reached(lines, ends, house, left)
            blocks.append(block)
            left = [one for one in left if one not in block]
    return joining_of(size, tuple(blocks))


def classes_of(web, purses, coins):
    """The joining of the houses with the classes of the coins as blocks."""
    size, _ = web
    near = need_standing(web, purses)
    need(is_positive(coins), "coins")
    most = table_by(web, near)
    joining = []
    for house in range(size):
        mates = [one for one in range(house) if min(most[one][house], most[house][one]) >= coins]
        joining.append(mates[0] if mates else house)
    return tuple(joining)
