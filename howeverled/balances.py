"""Gaps, and runs bent by bends."""

from math import gcd, lcm

from howeverled.askkinds import is_asks, weights_by
from howeverled.checks import need, need_standing
from howeverled.fits import bent_by, is_bends
from howeverled.flows import paid_over
from howeverled.quotients import quotient_of
from howeverled.slacks import is_standing
from howeverled.standinglists import all_standings
from howeverled.steps import places_by


def gap_at(web, asks, bends, purses):
    """The gap at the standing."""
    need(is_asks(web[0], asks), "asks")
    need(is_bends(web[0], bends), "bends")
    need_standing(web, purses)
    return gap_by(web, asks, bends, purses)


def gap_by(web, asks, bends, purses):
    """As gap_at; nothing is checked."""
    tops, bottom = terms_of(asks, bends)
    paid = [top for ask, top in tops.items() if is_standing(web, paid_over(purses, *ask))]
    return quotient_of(sum(paid), bottom)


def terms_of(asks, bends):
    """What each ask adds to the gap where it can be paid: a top for each, and one bottom for all."""
    weights = weights_by(asks)
    parts = {}
    for payer, payee, coins, _ in asks:
        for one, other in ((payer, payee), (payee, payer)):
            top, bottom = bent_by(bends, one, other, coins)
            less = weights.get((other, one, coins), 0) * top
            parts[one, other, coins] = (weights.get((one, other, coins), 0) * bottom - less, bottom)
    common = 1
    for _, bottom in parts.values():
        common = lcm(common, bottom)
    return ({ask: top * (common // bottom) for ask, (top, bottom) in parts.items()}, common)


def is_lasting(web, asks, bends):
    """True if the gap is nought at all standings."""
    need(is_asks(web[0], asks), "asks")
    need(is_bends(web[0], bends), "bends")
    tops, _ = terms_of(asks, bends)
    known = places_by(all_standings(web))
    for purses in known:
        if sum([top for ask, top in tops.items() if paid_over(purses, *ask) in known]) != 0:
            return False
    return True


def bent_run(web, bends):
    """The run bent by the bends."""
    need(is_bends(web[0], bends), "bends")
    standings = all_standings(web)
    powers = powers_by(standings, bends)
    weights = []
    for purses in standings:
        weight = 1
        for power, purse in zip(powers, purses):
            weight *= power[purse]
        weights.append(weight)
    total = sum(weights)
    return tuple([quotient_of(weight, total) for weight in weights])


def powers_by(standings, bends):
    """For each house the powers of its bend up to its greatest purse; all bends are made whole by one factor."""
    greatest = [max([purses[house] for purses in standings]) for house in range(len(bends))]
    common = 1
    for (_, bottom), most in zip(bends, greatest):
        common = lcm(common, bottom if most > 0 else 1)
    bases = [top * common // bottom for top, bottom in bends]
    divisor = 0
    for base, most in zip(bases, greatest):
        divisor = gcd(divisor, base if most > 0 else 0)
    powers = []
    for base, most in zip(bases, greatest):
        row = [1]
        for _ in range(most):
            row.append(row[-1] * (base // divisor))
        powers.append(row)
    return powers
