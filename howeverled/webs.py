"""Webs, and what is between their houses."""

from howeverled.checks import is_house, need, need_pair
from howeverled.errors import NotUsable
from howeverled.joinings import blocks_in, joined_two
from howeverled.kinds import is_lot, is_positive, is_tuple_of


def web_of(size, *lines):
    """The web with these lines, whose houses may be told in either sequence."""
    rows = []
    for place, line in enumerate(lines):
        if not is_told_line(size, line):
            raise NotUsable("lines", place)
        one, other, room = line
        rows.append(line_between(one, other, room))
    return (size, tuple(rows))


def is_told_line(size, thing):
    """True for a triple of two unlike houses and a room."""
    if not is_tuple_of(3, thing):
        return False
    one, other, room = thing
    return is_house(size, one) and is_house(size, other) and one != other and is_positive(room)


def line_between(one, other, room):
    """The line between two houses, the lesser one first."""
    return (min(one, other), max(one, other), room)


def rooms_of(web):
    """The rooms of all lines, added."""
    return sum([room for _, _, room in web[1]])


def hold_of(web, house):
    """The rooms of the lines with an end at the house, added."""
    need(is_house(web[0], house), "house")
    return sum([room for one, other, room in web[1] if house in (one, other)])


def within_of(web, lot):
    """The rooms of the lines within the lot, added."""
    need(is_lot(web[0], lot), "lot")
    return sum([room for one, other, room in web[1] if one in lot and other in lot])


def bond_of(web, here, there):
    """The rooms of the lines between two houses, added."""
    need_pair(web, here, there)
    return sum([room for one, other, room in web[1] if here in (one, other) and there in (one, other)])


def bonds_by(lines):
    """The bond for any two houses, the lesser one first, that are linked by these lines."""
    bonds = {}
    for one, other, room in lines:
        bonds[one, other] = bonds.get((one, other), 0) + room
    return bonds


def clubs_of(web):
    """All clubs, by their least house."""
    size, lines = web
    return blocks_in(clubs_by(size, lines))


def clubs_by(size, lines):
    """The joining of the houses by these lines."""
    joining = tuple(range(size))
    for one, other, _ in lines:
        joining = joined_two(joining, one, other)
    return joining


def hangs_together(web):
    """True if the web is one club."""
    return len(clubs_of(web)) == 1


def pairs_of(size):
    """Each two houses below size, the lesser one first, ascending."""
    return [(here, there) for here in range(size) for there in range(here + 1, size)]
