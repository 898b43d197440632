"""The most that houses can pay one another, and the lots that bar more."""

from howeverled.checks import need_pair, need_standing
from howeverled.flows import most_led, shortest_ways


def most_of(web, purses, here, there):
    """The most coins that here can pay there."""
    near = need_standing(web, purses)
    need_pair(web, here, there)
    most, _ = most_led(web[1], near, here, there)
    return most


def bar_of(web, purses, here, there):
    """Of the lots of least slack with here, without there, the one that lies within all others."""
    near = need_standing(web, purses)
    need_pair(web, here, there)
    return bar_by(web[1], near, here, there)


def bar_by(lines, near, here, there):
    """As bar_of, by near of a split."""
    _, after = most_led(lines, near, here, there)
    return tuple(sorted(shortest_ways(lines, after, [here])))


def most_table(web, purses):
    """A row for each payer, with most_of for each payee, 0 at the payer itself."""
    near = need_standing(web, purses)
    return table_by(web, near)


def table_by(web, near):
    """As most_table, by near of a split."""
    size, lines = web
    rows = []
    for here in range(size):
        row = [0 if there == here else most_led(lines, near, here, there)[0] for there in range(size)]
        rows.append(tuple(row))
    return tuple(rows)
