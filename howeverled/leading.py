"""Payments led over ways by rules."""

from howeverled.checks import is_rule, need, need_payment, need_split
from howeverled.errors import Refused
from howeverled.flows import led, most_led, shortest_ways, widest_way, width_along
from howeverled.kinds import is_positive, is_tuple_of
from howeverled.mosts import bar_by
from howeverled.rings import leads_to


def lead(web, split, payer, payee, coins, rule):
    """Any leading of the payment by the rule."""
    _, lines = web
    need_split(web, split)
    need_payment(web[0], payer, payee, coins)
    need(is_rule(rule), "rule")
    most, _ = most_led(lines, split, payer, payee)
    if most < coins:
        raise Refused(bar_by(lines, split, payer, payee))
    return parts_by(lines, split, payer, payee, coins, rule)


def parts_by(lines, split, payer, payee, coins, rule):
    """The parts of a payment that can be made, by the rule."""
    near = split
    left = coins
    parts = []
    while left > 0:
        way = way_by(lines, near, payer, payee, rule)
        part = min(left, 1 if rule == "ones" else width_along(lines, near, payer, way))
        near = led(lines, near, payer, way, part)
        left -= part
        parts.append((part, way))
    return tuple(parts)


def way_by(lines, near, payer, payee, rule):
    """A way for the next part, by the rule."""
    if rule == "wide":
        _, way = widest_way(lines, near, payer, payee)
    else:
        _, way = shortest_ways(lines, near, [payer])[payee]
    return way


def led_split(web, split, payer, payee, coins, leading):
    """The split behind any leading of the payment."""
    need_split(web, split)
    need_payment(web[0], payer, payee, coins)
    fault, after = judged_leading(web, split, payer, payee, coins, leading)
    need(fault is None, "leading")
    return after


def judged_leading(web, split, payer, payee, coins, thing):
    """A pair: None and the split behind the thing, or the word and place of what keeps it from being a leading."""
    if not isinstance(thing, tuple):
        return (("shape", -1), split)
    near = split
    left = coins
    for place, part in enumerate(thing):
        word = part_fault(web, near, payer, payee, part)
        if word is not None:
            return ((word, place), split)
        most, way = part
        near = led(web[1], near, payer, way, most)
        left -= most
    if left != 0:
        return (("sum", -1), split)
    return (None, tuple(near))


def part_fault(web, near, payer, payee, part):
    """The word for the first thing that is wrong with the part, None if it can be led."""
    if not is_tuple_of(2, part):
        return "shape"
    coins, way = part
    if not is_positive(coins):
        return "coins"
    if not leads_to(web, payer, payee, way):
        return "way"
    return None if coins <= width_along(web[1], near, payer, way) else "end"
