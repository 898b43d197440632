"""At how many standings told lots are shut, or told purses are 0."""

from howeverled.checks import need
from howeverled.forestweights import forest_weight
from howeverled.kinds import is_lot
from howeverled.slacks import lots_of
from howeverled.webchanges import kept_to
from howeverled.webs import within_of


def chain_count(web, lots):
    """The number of standings at which all the lots are shut."""
    size, _ = web
    need(is_chain(size, lots), "lots")
    count = 1
    inner = ()
    for lot in (*lots, tuple(range(size))):
        count *= weight_of_lot(web, less_lot(lot, inner))
        inner = lot
    return count


def is_chain(size, thing):
    """True for a tuple of lots, each within the next one and unlike it, none () or of all houses."""
    if not isinstance(thing, tuple) or not all([is_lot(size, lot) and 0 < len(lot) < size for lot in thing]):
        return False
    return all([len(one) < len(other) and less_lot(one, other) == () for one, other in zip(thing, thing[1:])])


def less_lot(lot, other):
    """The lot of the houses that are not in the other one."""
    return tuple([house for house in lot if house not in other])


def weight_of_lot(web, lot):
    """The forest weight of a lot, 1 for no houses."""
    return forest_weight(kept_to(web, lot)) if lot != () else 1


def idle_count(web, lot):
    """The number of standings at which each house of the lot has the purse 0."""
    # A line within the lot lays its coins at one of two houses that are both to have none.
    if within_of(web, lot) > 0:
        return 0
    return weight_of_lot(web, less_lot(tuple(range(web[0])), lot))


def busy_count(web):
    """The number of standings at which no house has the purse 0."""
    counts = [idle_count(web, lot) * (-1 if len(lot) & 1 else 1) for lot in lots_of(web[0])]
    return sum(counts)
