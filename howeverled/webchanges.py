"""Webs made of other webs."""

from howeverled.checks import is_line, need, need_pair
from howeverled.joinings import blocks_in, joined_two
from howeverled.kinds import is_joining, is_lot, is_number, is_order, is_web
from howeverled.webs import line_between


def renumbered(lines, numbers):
    """The lines with new numbers for their houses; those whose two houses become one fall away."""
    return tuple([
        line_between(numbers[one], numbers[other], room)
        for one, other, room in lines
        if numbers[one] != numbers[other]
    ])


def kept_to(web, lot):
    """The web kept to the lot, which is not ()."""
    size, lines = web
    need(is_lot(size, lot) and lot != (), "lot")
    numbers = {house: place for place, house in enumerate(lot)}
    within = [line for line in lines if line[0] in numbers and line[1] in numbers]
    return (len(lot), renumbered(within, numbers))


def without_line(web, line):
    """The web without the line."""
    size, lines = web
    need(is_line(web, line), "line")
    return (size, lines[:line] + lines[line + 1:])


def made_one(web, here, there):
    """The web with two houses made one."""
    need_pair(web, here, there)
    return made_by(web, joined_two(tuple(range(web[0])), here, there))


def made_by(web, joining):
    """The web with each block of the joining made one house."""
    size, lines = web
    need(is_joining(size, joining), "joining")
    blocks = blocks_in(joining)
    numbers = {house: place for place, block in enumerate(blocks) for house in block}
    return (len(blocks), renumbered(lines, numbers))


def with_line(web, here, there, room):
    """The web with one more line, the last one; for room 0 the web as it is."""
    size, lines = web
    need_pair(web, here, there)
    need(is_number(room), "room")
    if room == 0:
        return web
    return (size, (*lines, line_between(here, there, room)))


def renamed(web, order):
    """The web in which each house h has the number order[h]."""
    size, lines = web
    need(is_order(size, order), "order")
    return (size, renumbered(lines, order))


def beside(web, other):
    """Both webs as one, the other one's houses and lines behind."""
    size, lines = web
    need(is_web(other), "other")
    more, rows = other
    return (size + more, lines + tuple([(one + size, two + size, room) for one, two, room in rows]))
