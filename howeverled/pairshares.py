"""At how many standings a house can't pay another one."""

from howeverled.checks import need_payment
from howeverled.forestweights import forest_weight
from howeverled.quotients import quotient_of
from howeverled.stretches import stretch_table
from howeverled.webchanges import made_one
from howeverled.webs import bond_of


def refused_count(web, payer, payee, coins):
    """The number of standings at which the payer can't pay the coins."""
    need_payment(web[0], payer, payee, coins)
    # No stretch is shorter than the bond: up to it, as many standings of each one refuse the coins as there
    # are coins.
    if coins <= bond_of(web, payer, payee) + 1:
        return coins * forest_weight(made_one(web, payer, payee))
    return sum([many * min(coins, length + 1) for length, many in stretch_table(web, payer, payee)])


def refused_share(web, payer, payee, coins):
    """The share of all standings at which the payer can't pay the coins."""
    return quotient_of(refused_count(web, payer, payee, coins), forest_weight(web))


def refused_table(web):
    """A row for each payer, with the share of refusals of one coin for each payee, nought at the payer itself."""
    size, _ = web
    whole = forest_weight(web)
    # The shares are the same in both directions.
    shares = {
        (one, other): quotient_of(forest_weight(made_one(web, one, other)), whole)
        for other in range(size)
        for one in range(other)
    }
    rows = []
    for payer in range(size):
        row = [shares.get((min(payer, payee), max(payer, payee)), (0, 1)) for payee in range(size)]
        rows.append(tuple(row))
    return tuple(rows)
