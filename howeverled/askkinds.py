"""Asks, and asks that come by chance."""

from howeverled.checks import is_payment, need, need_payment
from howeverled.kinds import is_positive, is_tuple_of


def is_ask(size, thing):
    """True for an ask."""
    return is_tuple_of(3, thing) and is_payment(size, thing[0], thing[1], thing[2])


def is_asks(size, thing):
    """True for an ascending tuple of asks with weights, no ask twice."""
    if not isinstance(thing, tuple) or not all([is_weighed_ask(size, row) for row in thing]):
        return False
    return all([one[:3] < other[:3] for one, other in zip(thing, thing[1:])])


def is_weighed_ask(size, thing):
    """True for an ask with a weight."""
    return is_tuple_of(4, thing) and is_ask(size, thing[:3]) and is_positive(thing[3])


def asks_weight(size, asks):
    """All weights, added."""
    need(is_asks(size, asks), "asks")
    return sum([weight for _, _, _, weight in asks])


def weight_in(size, asks, payer, payee, coins):
    """The weight of the ask, 0 if it is not among the asks."""
    need(is_asks(size, asks), "asks")
    need_payment(size, payer, payee, coins)
    return weights_by(asks).get((payer, payee, coins), 0)


def weights_by(asks):
    """The weight for each of the asks."""
    return {(payer, payee, coins): weight for payer, payee, coins, weight in asks}
