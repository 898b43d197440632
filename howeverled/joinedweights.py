"""Weights of the forests that join told houses."""

from howeverled.checks import is_house, need
from howeverled.forestweights import forest_weight, tree_weight
from howeverled.kinds import is_joining, is_lot
from howeverled.sweeps import NONE, forest_sums
from howeverled.webchanges import kept_to


def weight_labelled(web, lot, labels):
    """The weights, added, of the forests in which just the houses of the lot with the same label are joined."""
    size, lines = web
    labels_by = dict(zip(lot, labels))
    return sum(forest_sums(size, lines, [labels_by.get(house, NONE) for house in range(size)], 0))


def joined_weight(web, lot):
    """The sum of the weights of the forests that join the lot."""
    need(is_lot(web[0], lot), "lot")
    return weight_labelled(web, lot, [0] * len(lot))


def club_weight(web, house, lot):
    """The sum of the weights of the forests in which the club of the house is the lot."""
    size, _ = web
    need(is_house(size, house), "house")
    need(is_lot(size, lot), "lot")
    if house not in lot:
        return 0
    rest = tuple([other for other in range(size) if other not in lot])
    return tree_weight(kept_to(web, lot)) * (forest_weight(kept_to(web, rest)) if rest else 1)


def joining_weight(web, lot, joining):
    """The sum of the weights of the forests that join houses of the lot just as the joining tells."""
    need(is_lot(web[0], lot), "lot")
    need(is_joining(len(lot), joining), "joining")
    return weight_labelled(web, lot, joining)
