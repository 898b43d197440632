"""Ways and rings, and coins led along them."""

from howeverled.checks import is_house, is_line, need, need_pair, need_split
from howeverled.flows import houses_along, led, width_along
from howeverled.kinds import is_positive


def houses_by(web, house, thing):
    """The houses along the thing, house first, if it is a tuple of lines that lead on from the house; else None."""
    if not isinstance(thing, tuple) or not all([is_line(web, line) for line in thing]):
        return None
    return houses_along(web[1], house, thing)


def leads_on(web, house, thing):
    """True for a way from the house to any other one."""
    houses = houses_by(web, house, thing)
    return houses is not None and len(houses) > 1 and len(set(houses)) == len(houses)


def leads_to(web, here, there, thing):
    """True for a way from here to there; the houses are not checked."""
    return leads_on(web, here, thing) and houses_by(web, here, thing)[-1] == there


def leads_back(web, house, thing):
    """True for a ring from the house; the house is not checked."""
    houses = houses_by(web, house, thing)
    if houses is None or houses[-1] != house:
        return False
    return len(set(houses)) == len(thing) and len(set(thing)) == len(thing)


def is_way(web, here, there, thing):
    """True if the thing is a way from here to there."""
    need_pair(web, here, there)
    return leads_to(web, here, there, thing)


def is_ring(web, house, thing):
    """True if the thing is a ring from the house."""
    need(is_house(web[0], house), "house")
    return leads_back(web, house, thing)


def led_along(web, split, house, way, coins):
    """The split behind coins led along a way or a ring from the house."""
    size, lines = web
    need_split(web, split)
    need(is_house(size, house), "house")
    need(leads_on(web, house, way) or leads_back(web, house, way), "way")
    need(can_lead(web, split, house, way, coins), "coins")
    return tuple(led(lines, split, house, way, coins))


def can_lead(web, split, house, way, coins):
    """True for coins that can be led along a way or a ring from the house."""
    return is_positive(coins) and coins <= width_along(web[1], split, house, way)
