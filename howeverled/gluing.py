"""Pieces glued to webs, and doors made one."""

from howeverled.checks import need
from howeverled.joinings import joined_two
from howeverled.kinds import are_different, is_joining, is_web
from howeverled.piecekinds import inner_of
from howeverled.webchanges import made_by, renumbered


def glued(piece, other, places):
    """The piece glued to the other web at these of its houses, one for each door."""
    web, doors = piece
    need(is_web(other), "other")
    size, lines = other
    need(are_different(size, places) and len(places) == len(doors), "places")
    inner = inner_of(piece)
    numbers = {door: place for door, place in zip(doors, places)}
    for house in inner:
        numbers[house] = size + len(numbers) - len(doors)
    return (size + len(inner), lines + renumbered(web[1], numbers))


def doors_made(piece, joining):
    """The piece's web with its doors made one as the joining tells, each inner house alone."""
    (size, lines), doors = piece
    need(is_joining(len(doors), joining), "joining")
    houses = tuple(range(size))
    for door, place in zip(doors, joining):
        houses = joined_two(houses, door, doors[place])
    return made_by((size, lines), houses)
