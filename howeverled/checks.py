"""Checks of what is passed in: what is not as stated is named."""

from howeverled.errors import NotUsable
from howeverled.flows import near_of
from howeverled.kinds import is_number, is_positive, is_split

RULES = ("short", "wide", "ones")


def need(holds, name):
    """Raises NotUsable for the parameter of this name, unless the condition holds."""
    if not holds:
        raise NotUsable(name, -1)


def is_house(size, thing):
    """True for a house below size."""
    return is_number(thing) and thing < size


def is_line(web, thing):
    """True for the place of a line of the web."""
    return is_number(thing) and thing < len(web[1])


def is_rule(thing):
    """True for the name of a rule."""
    return thing in RULES


def is_payment(size, payer, payee, coins):
    """True for two unlike houses below size and an integer of at least 1."""
    return is_house(size, payer) and is_house(size, payee) and payer != payee and is_positive(coins)


def need_pair(web, here, there):
    """Two unlike houses of the web, by the names here and there."""
    need(is_house(web[0], here), "here")
    need(is_house(web[0], there) and there != here, "there")


def need_payer(size, payer, payee):
    """Two unlike houses below size, by the names payer and payee."""
    need(is_house(size, payer), "payer")
    need(is_house(size, payee) and payee != payer, "payee")


def need_payment(size, payer, payee, coins):
    """The houses, below size, and the coins of a payment."""
    need_payer(size, payer, payee)
    need(is_positive(coins), "coins")


def need_split(web, split):
    """A split of the web."""
    need(is_split(web, split), "split")


def need_standing(web, purses):
    """A standing of the web; near of some split with these purses is returned."""
    near = near_of(web, purses)
    if near is None:
        raise NotUsable("purses", -1)
    return near
