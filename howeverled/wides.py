"""Webs wide enough that standings can be laid in layers."""

from howeverled.checks import need
from howeverled.errors import NotWide
from howeverled.joinings import are_blocks
from howeverled.kinds import is_number, is_positive
from howeverled.webs import bonds_by, clubs_by


def wide_pairs(web, coins):
    """The pairs of houses that are wide for the coins, ascending."""
    need(is_positive(coins), "coins")
    return tuple(sorted([pair for pair, bond in bonds_by(web[1]).items() if bond >= 2 * coins]))


def is_wide(web, coins):
    """True if the web is wide for the coins."""
    return are_joined(web[0], wide_pairs(web, coins), tuple(range(web[0])))


def are_joined(size, pairs, lot):
    """True if the pairs within the lot make it one club."""
    within = [(one, other, 1) for one, other in pairs if one in lot and other in lot]
    clubs = clubs_by(size, within)
    return len(set([clubs[house] for house in lot])) == 1


def layered(web, coins, lots, upward):
    """A standing at which later lots can pay earlier ones so many coins upward, all others at least the coins."""
    need_wide(web, coins)
    need(are_layers(web[0], wide_pairs(web, coins), lots), "lots")
    need(is_number(upward) and upward < coins, "upward")
    return layered_by(web, coins, lots, upward)


def need_wide(web, coins):
    """A web that is wide for the coins."""
    if not is_wide(web, coins):
        raise NotWide(coins)


def are_layers(size, pairs, thing):
    """True for one to three lots with each house once, each joined by wide pairs, and so each one to the next."""
    if not are_blocks(size, thing) or len(thing) > 3:
        return False
    if not all([are_joined(size, pairs, lot) for lot in thing]):
        return False
    return all([pair_across(pairs, one, other) is not None for one, other in zip(thing, thing[1:])])


def pair_across(pairs, lot, other):
    """The first of the pairs that has one house in each of the two lots, or None."""
    for one, two in pairs:
        if (one in lot and two in other) or (two in lot and one in other):
            return (one, two)
    return None


def layered_by(web, coins, lots, upward):
    """As layered; nothing is checked."""
    size, lines = web
    pairs = wide_pairs(web, coins)
    across = [pair_across(pairs, one, other) for one, other in zip(lots, lots[1:])]
    level = {house: place for place, lot in enumerate(lots) for house in lot}
    purses = [0] * size
    # Between the houses of a lot the coins lie in halves, between two lots with the earlier one: what a
    # later lot can pay comes by one wide pair alone, and that has enough left for the other direction.
    for (one, other), bond in bonds_by(lines).items():
        early, late = (one, other) if level[one] <= level[other] else (other, one)
        lent = upward if (one, other) in across else 0
        if level[early] == level[late]:
            lent = bond // 2
        purses[early] += bond - lent
        purses[late] += lent
    return tuple(purses)
