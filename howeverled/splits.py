"""Splits and the purses that they make."""

from howeverled.checks import is_house, need, need_split
from howeverled.flows import held_by
from howeverled.kinds import is_purses
from howeverled.webs import hold_of


def purses_of(web, split):
    """The purses."""
    size, lines = web
    need_split(web, split)
    return tuple(held_by(size, lines, split))


def ends_at(web, split, house):
    """For each line the coins at its end at the house, 0 if it has none there."""
    size, lines = web
    need_split(web, split)
    need(is_house(size, house), "house")
    return tuple([coins_at(line, near, house) for line, near in zip(lines, split)])


def coins_at(line, near, house):
    """The coins at the line's end at the house."""
    one, other, room = line
    if house == one:
        return near
    return room - near if house == other else 0


def turned_over(web, split):
    """The split with near and far changed about on each line."""
    need_split(web, split)
    return tuple([line[2] - near for line, near in zip(web[1], split)])


def turned_purses(web, purses):
    """For each house what it can hold less its purse."""
    size, _ = web
    holds = [hold_of(web, house) for house in range(size)]
    need(is_purses(size, purses) and all([purse <= hold for purse, hold in zip(purses, holds)]), "purses")
    return tuple([hold - purse for purse, hold in zip(purses, holds)])


def all_splits(web):
    """A generator of all splits, ascending."""
    rooms = [room for _, _, room in web[1]]
    split = [0] * len(rooms)
    yield tuple(split)
    at = len(rooms) - 1
    while at >= 0:
        if split[at] == rooms[at]:
            split[at] = 0
            at -= 1
        else:
            split[at] += 1
            yield tuple(split)
            at = len(rooms) - 1
