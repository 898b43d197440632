"""Worths of pieces with two doors, and their chances."""

from howeverled.checks import need
from howeverled.forestweights import forest_weight
from howeverled.kinds import is_quotient
from howeverled.piecekinds import need_two_doors
from howeverled.quotients import less, minus, over, plus, quotient_of, times
from howeverled.webchanges import made_one

WHOLE = (1, 1)


def worth_of(piece):
    """The worth of the piece."""
    need_two_doors(piece, "piece")
    web, (here, there) = piece
    joined = forest_weight(made_one(web, here, there))
    return quotient_of(forest_weight(web) - joined, joined)


def chance_of(piece):
    """The chance of the piece."""
    return chance_by(worth_of(piece))


def is_worth(thing):
    """True for a quotient not below 0."""
    return is_quotient(thing) and thing[0] >= 0


def need_worths(one, other):
    """Two worths."""
    need(is_worth(one), "one")
    need(is_worth(other), "other")


def worth_beside(one, other):
    """The worth of two pieces side by side."""
    need_worths(one, other)
    return plus(one, other)


def worth_behind(one, other):
    """The worth of two pieces one behind the other."""
    need_worths(one, other)
    return worth_by(times(chance_by(one), chance_by(other)))


def chance_by(worth):
    """The chance of the worth."""
    need(is_worth(worth), "worth")
    return over(worth, plus(worth, WHOLE))


def worth_by(chance):
    """The worth of the chance."""
    need(is_worth(chance) and less(chance, WHOLE), "chance")
    return over(chance, minus(WHOLE, chance))
