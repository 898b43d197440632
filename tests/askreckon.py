"""Asks and bends drawn for tests, and what the gap is by the words of the document."""

from fractions import Fraction

from reckon import moved


def random_rows(draw, size, many, most_coins=3, greatest=10 ** 6):
    rows = []
    for _ in range(many if size > 1 else 0):
        payer, payee = draw.sample(range(size), 2)
        rows.append((payer, payee, draw.randint(1, most_coins), draw.randint(1, greatest)))
    return rows


def asks_from(rows):
    weights = {}
    for payer, payee, coins, weight in rows:
        weights[payer, payee, coins] = weights.get((payer, payee, coins), 0) + weight
    return tuple(sorted((*ask, weight) for ask, weight in weights.items()))


def told(fraction):
    return (fraction.numerator, fraction.denominator)


def term(asks, bends, payer, payee, coins):
    """What the ask adds to the gap."""
    weights = {row[:3]: row[3] for row in asks}
    bend = Fraction(*bends[payee]) / Fraction(*bends[payer])
    return weights.get((payer, payee, coins), 0) - weights.get((payee, payer, coins), 0) * bend ** coins


def gap(known, asks, bends, purses):
    size = len(purses)
    most_coins = max([row[2] for row in asks], default=0)
    return sum((
        term(asks, bends, payer, payee, coins)
        for payer in range(size) for payee in range(size) if payer != payee
        for coins in range(1, most_coins + 1) if moved(purses, payer, payee, coins) in known
    ), Fraction(0))


def random_bends(draw, size, greatest=5):
    return tuple(told(Fraction(draw.randint(1, greatest), draw.randint(1, greatest))) for _ in range(size))


def fitting_rows(draw, web, bends):
    """Rows of asks that fit the bends, one coin both ways along each line among them."""
    rows = []
    pairs = [line[:2] for line in web[1]] + [tuple(draw.sample(range(web[0]), 2)) for _ in range(2)]
    for place, (one, other) in enumerate(dict.fromkeys(pairs)):
        coins = 1 if place < len(set(line[:2] for line in web[1])) else draw.randint(2, 3)
        bend = (Fraction(*bends[other]) / Fraction(*bends[one])) ** coins
        rows += [(one, other, coins, bend.numerator), (other, one, coins, bend.denominator)]
    return rows
