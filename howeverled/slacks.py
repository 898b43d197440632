"""Slacks of lots, and the lots that can pay out too little."""

from howeverled.checks import need, need_standing
from howeverled.flows import level_to, near_of
from howeverled.kinds import is_integer, is_lot, is_tuple_of
from howeverled.webs import rooms_of, within_of


def need_integers(web, purses):
    """A tuple with an integer for each house."""
    need(is_tuple_of(web[0], purses) and all([is_integer(purse) for purse in purses]), "purses")


def slack_of(web, purses, lot):
    """The slack of the lot."""
    need_integers(web, purses)
    need(is_lot(web[0], lot), "lot")
    return sum([purses[house] for house in lot]) - within_of(web, lot)


def is_standing(web, thing):
    """True if the thing is a standing."""
    return near_of(web, thing) is not None


def lots_of(size):
    """All lots of so many houses, ascending."""
    lots = [()]
    for house in range(size):
        lots = lots + [(*lot, house) for lot in lots]
    return sorted(lots)


def shut_lots(web, purses):
    """All shut lots, ascending."""
    need_standing(web, purses)
    return tuple([lot for lot in lots_of(web[0]) if slack_of(web, purses, lot) == 0])


def short_lot(web, purses):
    """None for a standing, otherwise a lot that can pay out too little."""
    size, lines = web
    need_integers(web, purses)
    if sum(purses) != rooms_of(web):
        return tuple(range(size))
    # A lot of least slack keeps all that lies on its lines: no coin leads out of it,
    # so each such lot has all houses to which those with too much can still lead one.
    _, _, lot = level_to(size, lines, purses)
    return lot if lot != () else None
