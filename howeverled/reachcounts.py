"""At how many standings a house can pay told others."""

from howeverled.checks import is_house, need
from howeverled.forestweights import forest_weight, tree_weight
from howeverled.joinedweights import club_weight, joined_weight
from howeverled.joinings import blocks_in
from howeverled.kinds import is_joining
from howeverled.quotients import quotient_of
from howeverled.slacks import lots_of
from howeverled.webchanges import kept_to


def joined_count(web, lot):
    """The number of standings at which one house of the lot, whichever it is, can pay each other house of it."""
    need(lot != (), "lot")
    return joined_weight(web, lot)


def reach_count(web, house, lot):
    """The number of standings at which the reach of the house is the lot."""
    return club_weight(web, house, lot)


def reach_table(web, house):
    """All lots that some standing has as the reach of the house, each with its number of standings, ascending."""
    counts = [(lot, club_weight(web, house, lot)) for lot in lots_of(web[0])]
    return tuple([(lot, count) for lot, count in counts if count > 0])


def reach_mean(web, house):
    """The mean, over all standings, of how many houses the reach has."""
    size, _ = web
    need(is_house(size, house), "house")
    pairs = [tuple(sorted(set([house, other]))) for other in range(size)]
    return quotient_of(sum([joined_weight(web, pair) for pair in pairs]), forest_weight(web))


def peel_count(web, joining):
    """The number of standings at which the peel, by whatever order, is the joining."""
    need(is_joining(web[0], joining), "joining")
    count = 1
    for block in blocks_in(joining):
        count *= tree_weight(kept_to(web, block))
    return count
