"""Bends, and asks that fit them."""

from howeverled.askkinds import is_asks, weights_by
from howeverled.checks import need
from howeverled.kinds import is_quotient, is_tuple_of


def is_bends(size, thing):
    """True for a tuple with a quotient above 0 for each house."""
    return is_tuple_of(size, thing) and all([is_quotient(bend) and bend[0] > 0 for bend in thing])


def asks_fit(size, asks, bends):
    """True if the asks fit the bends."""
    need(is_asks(size, asks), "asks")
    need(is_bends(size, bends), "bends")
    return unfit_at(asks, bends) is None


def unfit_at(asks, bends):
    """The place of the first ask that does not fit the bends, or None."""
    weights = weights_by(asks)
    for place, (payer, payee, coins, weight) in enumerate(asks):
        top, bottom = bent_by(bends, payer, payee, coins)
        if weight * bottom != weights.get((payee, payer, coins), 0) * top:
            return place
    return None


def bent_by(bends, payer, payee, coins):
    """Top and bottom, not shortened, of the payee's bend over the payer's, to the power of the coins."""
    top = bends[payee][0] * bends[payer][1]
    bottom = bends[payee][1] * bends[payer][0]
    return (raised(top, coins), raised(bottom, coins))


def raised(base, many):
    """The base to the power of many."""
    power = 1
    for _ in range(many):
        power *= base
    return power
