"""Batches of asks, settled together."""

from howeverled.askkinds import is_ask
from howeverled.checks import need, need_split, need_standing
from howeverled.errors import Refused
from howeverled.flows import held_by, lessened, levelled, narrowest, walk_on
from howeverled.slacks import is_standing, short_lot


def is_batch(size, thing):
    """True for a tuple of asks."""
    return isinstance(thing, tuple) and all([is_ask(size, ask) for ask in thing])


def net_of(size, batch):
    """The net of each house."""
    need(is_batch(size, batch), "batch")
    nets = [0] * size
    for payer, payee, coins in batch:
        nets[payer] -= coins
        nets[payee] += coins
    return tuple(nets)


def net_purses(web, purses, batch):
    """The purses with each house's net added."""
    return tuple([purse + net for purse, net in zip(purses, net_of(web[0], batch))])


def can_settle(web, purses, batch):
    """True if the asks can be settled together."""
    need_standing(web, purses)
    return is_standing(web, net_purses(web, purses, batch))


def settled(web, purses, batch):
    """The net purses, if the asks can be settled together."""
    need_standing(web, purses)
    return purses_behind(web, purses, batch)


def purses_behind(web, purses, batch):
    """The net purses, or Refused; the purses are not checked."""
    after = net_purses(web, purses, batch)
    lot = short_lot(web, after)
    if lot is not None:
        raise Refused(lot)
    return after


def settle(web, split, batch):
    """Coins led along ways, in any sequence, that settle the asks together."""
    size, lines = web
    need_split(web, split)
    purses_behind(web, held_by(size, lines, split), batch)
    nets = list(net_of(size, batch))
    near, _, _ = levelled(lines, split, [-net for net in nets])
    change = [after - before for before, after in zip(split, near)]
    return parts_of(lines, change, nets)


def parts_of(lines, change, nets):
    """The change as triples (house, way, coins) from houses with a net below 0 to some above.

    On each line all of them lead in one direction, as the change does, so
    that they find their coins in any sequence. Where coins come back to a
    house, they are taken out of the change: no purse needs them.
    """
    parts = []
    due = list(nets)
    while min(due) < 0:
        start = due.index(min(due))
        goals = {house: True for house, net in enumerate(due) if net > 0}
        houses, way = walk_on(lines, change, start, goals)
        if houses[-1] in goals:
            coins = min(-due[start], due[houses[-1]], narrowest(change, way))
            parts.append((start, tuple(way), coins))
            due[start] += coins
            due[houses[-1]] -= coins
        else:
            way = way[houses.index(houses[-1]):]
            coins = narrowest(change, way)
        change = lessened(change, way, coins)
    return tuple(parts)
