"""Houses that all ways pass, and chances of pairs."""

from howeverled.checks import need_payer
from howeverled.flows import houses_along, shortest_ways
from howeverled.pairshares import refused_share
from howeverled.quotients import minus, times
from howeverled.webs import clubs_by


def clubs_without(web, house):
    """The joining of the houses by the lines that do not touch this one."""
    size, lines = web
    return clubs_by(size, [line for line in lines if house not in line[:2]])


def cut_houses(web):
    """The lot of each house without which the others of its club are two clubs or more."""
    size, lines = web
    clubs = clubs_by(size, lines)
    cut = []
    for house in range(size):
        left = clubs_without(web, house)
        parts = [left[mate] for mate in range(size) if clubs[mate] == clubs[house] and mate != house]
        if len(set(parts)) > 1:
            cut.append(house)
    return tuple(cut)


def chance_of_pair(web, payer, payee):
    """1 less the share of refusals of one coin."""
    return minus((1, 1), refused_share(web, payer, payee, 1))


def chance_row(web, payer, payee):
    """The houses that each way from payer to payee passes, in the sequence in which the ways pass them."""
    need_payer(web[0], payer, payee)
    return tuple([house for house in some_way(web, payer, payee) if parts_pair(web, house, payer, payee)])


def some_way(web, payer, payee):
    """The houses along a way from payer to payee, () if there is none."""
    _, lines = web
    # With one coin at each end of each line a coin can be led wherever a line leads.
    open_lines = [(one, other, 2) for one, other, _ in lines]
    ways = shortest_ways(open_lines, [1] * len(lines), [payer])
    if payee not in ways:
        return ()
    _, way = ways[payee]
    return tuple(houses_along(lines, payer, way))


def parts_pair(web, house, payer, payee):
    """True if no way leads from payer to payee without passing the house; so it is for these two themselves."""
    left = clubs_without(web, house)
    return left[payer] != left[payee]


def chance_by_row(web, payer, payee):
    """The product of the chances of each two neighbours in chance_row, nought if there are none."""
    houses = chance_row(web, payer, payee)
    if houses == ():
        return (0, 1)
    chance = (1, 1)
    for one, other in zip(houses, houses[1:]):
        chance = times(chance, chance_of_pair(web, one, other))
    return chance
