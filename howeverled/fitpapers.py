"""Bends that asks fit, or a row of houses that no bends fit."""

from howeverled.askkinds import is_ask, is_asks, weights_by
from howeverled.checks import need
from howeverled.errors import InvalidPaper, Unasked
from howeverled.fits import is_bends, raised, unfit_at
from howeverled.kinds import are_different, is_tuple_of
from howeverled.quotients import quotient_of, times
from howeverled.webs import bonds_by, hangs_together


def need_line_asks(web, asks):
    """A web that hangs together, and asks with one coin both ways along each line; their weights are returned."""
    need(hangs_together(web), "web")
    need(is_asks(web[0], asks), "asks")
    weights = weights_by(asks)
    for line, (one, other, _) in enumerate(web[1]):
        if (one, other, 1) not in weights or (other, one, 1) not in weights:
            raise Unasked(line)
    return weights


def fit_paper(web, asks):
    """Bends that the asks fit, or by what the asks are odd."""
    weights = need_line_asks(web, asks)
    rows = rows_from_first(web)
    bends = tuple([bend_along(weights, rows[house]) for house in range(web[0])])
    place = unfit_at(asks, bends)
    if place is None:
        return ("fits", bends)
    payer, payee, coins, _ = asks[place]
    return ("odd", (payer, payee, coins), row_between(rows[payer], rows[payee]))


def rows_from_first(web):
    """For each house a row of linked houses from house 0 to it, itself too; all of them make a tree."""
    rows = {0: (0,)}
    queue = [0]
    pairs = list(bonds_by(web[1]))
    while queue:
        here = queue.pop()
        for one, other in pairs:
            there = other if here == one else one
            if here in (one, other) and there not in rows:
                rows[there] = (*rows[here], there)
                queue.append(there)
    return rows


def row_between(one, other):
    """The row of houses from the last one of one row to the last one of the other, both from house 0 by one tree."""
    common = len([house for house in one if house in other])
    return one[common:][::-1] + other[common - 1:]


def bend_along(weights, houses):
    """The weights of the asks of one coin along the houses over those back."""
    bend = (1, 1)
    for here, there in zip(houses, houses[1:]):
        bend = times(bend, quotient_of(weights[here, there, 1], weights[there, here, 1]))
    return bend


def lets_fit(web, asks, thing):
    """The bends that the paper tells, None for an odd row."""
    weights = need_line_asks(web, asks)
    if is_tuple_of(2, thing) and thing[0] == "fits":
        return judged_bends(web, asks, thing[1])
    if not is_tuple_of(3, thing) or thing[0] != "odd":
        raise InvalidPaper("shape", -1)
    _, ask, houses = thing
    if not is_ask(web[0], ask) or ask not in weights:
        raise InvalidPaper("ask", -1)
    if not is_linked_row(web, ask[0], ask[1], houses):
        raise InvalidPaper("way", -1)
    if not is_odd(weights, ask, houses):
        raise InvalidPaper("even", -1)
    return None


def judged_bends(web, asks, bends):
    """The bends, if the asks fit them."""
    if not is_bends(web[0], bends):
        raise InvalidPaper("bends", -1)
    place = unfit_at(asks, bends)
    if place is not None:
        raise InvalidPaper("unlike", place)
    return bends


def is_linked_row(web, here, there, thing):
    """True for a tuple of houses from here to there, none twice, each linked to the next one."""
    size, lines = web
    if not are_different(size, thing) or thing[0] != here or thing[-1] != there:
        return False
    bonds = bonds_by(lines)
    return all([(min(one, other), max(one, other)) in bonds for one, other in zip(thing, thing[1:])])


def is_odd(weights, ask, houses):
    """True if no bends fit both the ask and the asks of one coin along the houses."""
    payer, payee, coins = ask
    back = weights.get((payee, payer, coins), 0)
    top, bottom = bend_along(weights, houses)
    return weights[ask] * raised(bottom, coins) != back * raised(top, coins)
