"""Checkers of leadings, by a rule or none."""

from howeverled.checks import is_rule, need, need_payment, need_split
from howeverled.errors import InvalidPaper
from howeverled.flows import led, shortest_ways, widest_way, width_along
from howeverled.leading import judged_leading


def lets_leading(web, split, payer, payee, coins, thing):
    """The split behind the thing, if it is a leading of the payment."""
    need_split(web, split)
    need_payment(web[0], payer, payee, coins)
    fault, after = judged_leading(web, split, payer, payee, coins, thing)
    if fault is not None:
        word, at = fault
        raise InvalidPaper(word, at)
    return after


def follows_rule(web, split, payer, payee, coins, rule, leading):
    """True if the leading is one of the payment by the rule."""
    _, lines = web
    need_split(web, split)
    need_payment(web[0], payer, payee, coins)
    need(is_rule(rule), "rule")
    fault, _ = judged_leading(web, split, payer, payee, coins, leading)
    if fault is not None:
        return False
    near = split
    left = coins
    for part, way in leading:
        if part != part_due(lines, near, payer, way, left, rule) or not is_way_by(lines, near, payer, payee, way, rule):
            return False
        near = led(lines, near, payer, way, part)
        left -= part
    return True


def part_due(lines, near, payer, way, left, rule):
    """With how many coins the rule leads the next part along the way, when so many are left."""
    return 1 if rule == "ones" else min(left, width_along(lines, near, payer, way))


def is_way_by(lines, near, payer, payee, way, rule):
    """True if the rule may take the way, along which a coin can be led, for the next part."""
    if rule == "wide":
        widest, _ = widest_way(lines, near, payer, payee)
        return width_along(lines, near, payer, way) == widest
    _, shortest = shortest_ways(lines, near, [payer])[payee]
    return len(way) == len(shortest)
