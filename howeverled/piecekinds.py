"""Pieces: webs with doors."""

from howeverled.checks import is_house, need
from howeverled.errors import InvalidPaper
from howeverled.kinds import are_different, is_tuple_of, is_web


def is_piece(thing):
    """True for a piece."""
    return piece_fault(thing) is None


def piece_fault(thing):
    """The word and the place of the first thing that is wrong, None for a piece."""
    if not is_tuple_of(2, thing):
        return ("shape", -1)
    web, doors = thing
    if not is_web(web):
        return ("web", -1)
    if not isinstance(doors, tuple) or doors == ():
        return ("doors", -1)
    for place, door in enumerate(doors):
        if not is_house(web[0], door) or door in doors[:place]:
            return ("door", place)
    return None


def inner_of(piece):
    """The lot of the inner houses."""
    (size, _), doors = piece
    return tuple([house for house in range(size) if house not in doors])


def piece_of(web, doors):
    """The piece of the web with these doors."""
    need(are_different(web[0], doors), "doors")
    return (web, doors)


def lets_piece(thing):
    """How many inner houses the piece has."""
    fault = piece_fault(thing)
    if fault is not None:
        word, at = fault
        raise InvalidPaper(word, at)
    return len(inner_of(thing))


def need_two_doors(thing, name):
    """A piece with two doors, by this name."""
    need(is_piece(thing) and len(thing[1]) == 2, name)


def need_as_many_doors(piece, other):
    """Another piece, with as many doors."""
    need(is_piece(other) and len(other[1]) == len(piece[1]), "other")
