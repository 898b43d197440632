"""Pieces drawn for tests, and what is told of them by all splits and all sets of lines."""

from fractions import Fraction
from itertools import product

from reckon import RING, ROW, TWICE, forests, moved, random_web, splits, standings

P = (ROW, (0, 2))

# Pieces with two doors: of several lines, of none, with houses apart, with all houses doors, and not hanging together.
TWO_DOORS = (
    P,
    (ROW, (2, 0)),
    (ROW, (0, 1)),
    (RING, (0, 2)),
    (TWICE, (0, 1)),
    (TWICE, (1, 0)),
    ((2, ((0, 1, 1),)), (0, 1)),
    ((2, ()), (0, 1)),
    ((3, ((0, 1, 2),)), (1, 2)),
    ((3, ((0, 1, 2),)), (0, 1)),
    ((4, ((0, 1, 1), (2, 3, 2))), (0, 3)),
    ((4, ((0, 1, 1), (1, 2, 1), (2, 3, 1), (0, 3, 1))), (3, 1)),
    ((4, ((0, 1, 1), (0, 2, 1), (1, 3, 1), (2, 3, 1), (1, 2, 1))), (0, 3)),
)


def told(fraction):
    return (fraction.numerator, fraction.denominator)


def random_piece(draw, doors, most_size=5, most_lines=6, room=3):
    size = draw.randint(doors, max(most_size, doors))
    web = random_web(draw, size, draw.randint(0, most_lines), room)
    return (web, tuple(draw.sample(range(size), doors)))


def small_pieces(draw, doors, many, most_splits=300):
    """Drawn pieces with so many doors, and at most so many splits."""
    found = []
    while len(found) < many:
        piece = random_piece(draw, doors)
        if len(splits(piece[0])) <= most_splits:
            found.append(piece)
    return found


def joinings(many):
    """All joinings, by trying all tuples."""
    return [one for one in product(range(many), repeat=many)
            if all(least <= place and one[least] == least for place, least in enumerate(one))]


def weight(web):
    """The forest weight, by all sets of lines."""
    return sum(one for _, one, _ in forests(web))


def joined_doors(piece, joining):
    """The piece's web with its doors made one."""
    (size, lines), doors = piece
    house = list(range(size))
    for place, least in enumerate(joining):
        house[doors[place]] = doors[least]
    left = sorted(set(house))
    number = [left.index(one) for one in house]
    rows = [(*sorted((number[one], number[other])), room) for one, other, room in lines if number[one] != number[other]]
    return (len(left), tuple(rows))


def table_of(piece):
    """The door table, by all sets of lines."""
    return tuple(weight(joined_doors(piece, joining)) for joining in joinings(len(piece[1])))


def glued_by_hand(piece, other, places):
    """The web of both, line by line."""
    (size, lines), doors = piece
    number = dict(zip(doors, places))
    for house in range(size):
        if house not in number:
            number[house] = other[0] + len([one for one in number if one not in doors])
    rows = [(*sorted((number[one], number[end])), room) for one, end, room in lines]
    return (other[0] + size - len(doors), (*other[1], *rows))


def refusals(known, payer, payee, coins):
    """At how many of the standings the payer can't pay the coins."""
    return sum(moved(purses, payer, payee, coins) not in known for purses in known)


def share(web, payer, payee, coins):
    known = standings(web)
    return Fraction(refusals(known, payer, payee, coins), len(known))


def lengths(piece):
    """The table of lengths, by walking each stretch from its end."""
    web, (here, there) = piece
    known = standings(web)
    counts = {}
    for purses in known:
        if moved(purses, here, there, 1) in known:
            continue
        length = 0
        while moved(purses, there, here, length + 1) in known:
            length += 1
        counts[length] = counts.get(length, 0) + 1
    return tuple(sorted(counts.items()))
