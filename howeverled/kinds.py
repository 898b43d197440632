"""Tells of any value whether it is of a kind."""

from math import gcd


def is_integer(thing):
    """True for an int that is not a bool."""
    return isinstance(thing, int) and not isinstance(thing, bool)


def is_number(thing):
    """True for an integer that is at least 0."""
    return is_integer(thing) and thing >= 0


def is_positive(thing):
    """True for an integer that is at least 1."""
    return is_integer(thing) and thing >= 1


def is_quotient(thing):
    """True for a pair of integers in lowest terms, the bottom at least 1."""
    if not is_tuple_of(2, thing):
        return False
    top, bottom = thing
    return is_integer(top) and is_positive(bottom) and gcd(top, bottom) == 1


def is_tuple_of(many, thing):
    """True for a tuple of that many values."""
    return isinstance(thing, tuple) and len(thing) == many


def are_positive(thing):
    """True for a tuple of integers of at least 1."""
    return isinstance(thing, tuple) and all([is_positive(one) for one in thing])


def are_below(size, thing):
    """True for a tuple of numbers below size."""
    return isinstance(thing, tuple) and all([is_number(one) and one < size for one in thing])


def are_different(size, thing):
    """True for a tuple of different numbers below size, at least one."""
    return are_below(size, thing) and thing != () and len(set(thing)) == len(thing)


def is_lot(size, thing):
    """True for an ascending tuple of houses below size."""
    return are_below(size, thing) and all([one < other for one, other in zip(thing, thing[1:])])


def is_purses(size, thing):
    """True for a tuple with a number for each house."""
    return is_tuple_of(size, thing) and all([is_number(purse) for purse in thing])


def is_joining(many, thing):
    """True if at each place stands the least place that is joined with it."""
    if not is_tuple_of(many, thing) or not are_below(many, thing):
        return False
    return all([least <= place and thing[least] == least for place, least in enumerate(thing)])


def is_order(size, thing):
    """True for a tuple of all houses, each once."""
    return are_below(size, thing) and sorted(thing) == list(range(size))


def line_fault(size, line):
    """The word for the first thing that is wrong with the line, None if it is right."""
    if not is_tuple_of(3, line):
        return "shape"
    one, other, room = line
    if not (is_number(one) and is_number(other) and one < other < size):
        return "house"
    if not is_positive(room):
        return "room"
    return None


def web_fault(thing):
    """The word and the place of the first thing that is wrong, None for a web."""
    if not is_tuple_of(2, thing):
        return ("shape", -1)
    size, lines = thing
    if not is_positive(size):
        return ("size", -1)
    if not isinstance(lines, tuple):
        return ("lines", -1)
    for place, line in enumerate(lines):
        word = line_fault(size, line)
        if word is not None:
            return (word, place)
    return None


def is_web(thing):
    """True for a web, of any size."""
    return web_fault(thing) is None


def is_split(web, thing):
    """True for a tuple with a number for each line, at most its room."""
    _, lines = web
    if not is_tuple_of(len(lines), thing):
        return False
    return all([is_number(near) and near <= line[2] for near, line in zip(thing, lines)])


def is_same(one, other):
    """True if other is one, integers nested in tuples: True is not 1 here."""
    if isinstance(one, tuple):
        return is_tuple_of(len(one), other) and all([is_same(mine, theirs) for mine, theirs in zip(one, other)])
    return is_integer(other) and one == other
