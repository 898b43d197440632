"""Standings at which it shows that asks do not fit bends."""

from itertools import combinations, permutations

from howeverled.askkinds import is_asks
from howeverled.balances import gap_by, terms_of
from howeverled.checks import need
from howeverled.errors import InvalidPaper
from howeverled.fits import is_bends, unfit_at
from howeverled.joinings import blocks_in, joined_two
from howeverled.reaches import classes_of
from howeverled.slacks import is_standing
from howeverled.webs import clubs_by
from howeverled.wides import are_layers, layered_by, need_wide, wide_pairs


def need_bent(web, asks, bends):
    """Asks and bends of the web's size."""
    need(is_asks(web[0], asks), "asks")
    need(is_bends(web[0], bends), "bends")


def most_asked(asks):
    """The greatest coins asked, 0 for no asks."""
    return max([coins for _, _, coins, _ in asks], default=0)


def witness_of(web, asks, bends):
    """None if the asks fit the bends, otherwise a standing with few classes at which the gap is not nought."""
    need_bent(web, asks, bends)
    if asks == ():
        return None
    coins = most_asked(asks)
    need_wide(web, coins)
    if unfit_at(asks, bends) is None:
        return None
    return telling_layers(web, coins, terms_of(asks, bends)[0])


def telling_layers(web, coins, tops):
    """A standing laid in layers at which the tops of what can be paid do not add up to 0.

    Lots that are cut from one tree of wide pairs are enough. If they all told
    nothing, then by one lot all tops would add up to 0, by two lots so would
    those from either side of a cut to the other one, by three lots those
    between what two cuts take off at the ends. What begins at a house and
    ends at an unlike one is made of such sums, so that each top would be 0.
    """
    for lots in layers_of(web, coins):
        level = {house: place for place, lot in enumerate(lots) for house in lot}
        for upward in range(coins):
            paid = [
                top for (payer, payee, asked), top in tops.items()
                if level[payer] <= level[payee] or asked <= upward
            ]
            if sum(paid) != 0:
                return layered_by(web, coins, lots, upward)


def layers_of(web, coins):
    """All layers of one to three lots that are cut from one tree of wide pairs."""
    size, _ = web
    pairs = wide_pairs(web, coins)
    tree = tree_of(size, pairs)
    found = []
    for cuts in range(3):
        for gone in combinations(tree, cuts):
            left = [(one, other, 1) for one, other in tree if (one, other) not in gone]
            blocks = list(blocks_in(clubs_by(size, left)))
            found.extend([lots for lots in permutations(blocks) if are_layers(size, pairs, lots)])
    return found


def tree_of(size, pairs):
    """The pairs that join two clubs of those before them."""
    joining = tuple(range(size))
    tree = []
    for one, other in pairs:
        if joining[one] != joining[other]:
            joining = joined_two(joining, one, other)
            tree.append((one, other))
    return tree


def lets_witness(web, asks, bends, thing):
    """The gap at the thing, if it is a standing with at most three classes at which the gap is not nought."""
    need_bent(web, asks, bends)
    if not is_standing(web, thing):
        raise InvalidPaper("standing", -1)
    if asks != () and len(set(classes_of(web, thing, most_asked(asks)))) > 3:
        raise InvalidPaper("classes", -1)
    gap = gap_by(web, asks, bends, thing)
    if gap == (0, 1):
        raise InvalidPaper("gap", -1)
    return gap
