"""Asks made of rows, of other asks and of lines."""

from howeverled.askkinds import is_asks, is_weighed_ask
from howeverled.checks import need
from howeverled.errors import NotUsable
from howeverled.kinds import is_positive
from howeverled.webs import bonds_by


def asks_of(size, *rows):
    """The asks of these rows, weights of the same ask added."""
    for place, row in enumerate(rows):
        if not is_weighed_ask(size, row):
            raise NotUsable("rows", place)
    return asks_added(rows)


def asks_added(rows):
    """As asks_of; nothing is checked."""
    weights = {}
    for payer, payee, coins, weight in rows:
        weights[payer, payee, coins] = weights.get((payer, payee, coins), 0) + weight
    return tuple(sorted([(*ask, weight) for ask, weight in weights.items()]))


def turned_back(asks):
    """The asks with payer and payee changed about; nothing is checked."""
    return tuple(sorted([(payee, payer, coins, weight) for payer, payee, coins, weight in asks]))


def asks_back(size, asks):
    """The asks with payer and payee of each one changed about."""
    need(is_asks(size, asks), "asks")
    return turned_back(asks)


def asks_both(size, asks):
    """The asks and the asks back, weights added."""
    need(is_asks(size, asks), "asks")
    return asks_added([*asks, *turned_back(asks)])


def line_asks(web, weight):
    """One coin asked both ways between any two linked houses, with this weight."""
    need(is_positive(weight), "weight")
    rows = []
    for one, other in bonds_by(web[1]):
        rows.append((one, other, 1, weight))
        rows.append((other, one, 1, weight))
    return tuple(sorted(rows))


def alike_both(size, asks):
    """True if each ask has the weight of the ask back."""
    need(is_asks(size, asks), "asks")
    return turned_back(asks) == asks
