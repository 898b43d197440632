"""Stretches: standings that differ by coins between two houses alone."""

from howeverled.checks import need_pair, need_standing
from howeverled.flows import most_led, paid_over
from howeverled.standinglists import all_standings


def stretch_at(web, purses, here, there):
    """The position of the standing on its stretch, and the stretch's length."""
    near = need_standing(web, purses)
    need_pair(web, here, there)
    position, _ = most_led(web[1], near, here, there)
    more, _ = most_led(web[1], near, there, here)
    return (position, position + more)


def stretch_of(web, purses, here, there):
    """All standings of the stretch, one by one, by position."""
    position, length = stretch_at(web, purses, here, there)
    for place in range(length + 1):
        yield paid_over(purses, there, here, place - position)


def stretch_table(web, here, there):
    """The lengths that occur, each with the number of stretches that have it, ascending."""
    need_pair(web, here, there)
    many = {}
    for purses in all_standings(web):
        # Standings of one stretch have all other purses alike.
        rest = tuple([purse for house, purse in enumerate(purses) if house not in (here, there)])
        many[rest] = many.get(rest, 0) + 1
    return counted([standings - 1 for standings in many.values()])


def counted(values):
    """The values, each once with how many there are of it, ascending."""
    many = {}
    for value in values:
        many[value] = many.get(value, 0) + 1
    return tuple(sorted(many.items()))
