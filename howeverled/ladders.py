"""Pieces made to a chance or a worth."""

from howeverled.checks import need
from howeverled.kinds import is_quotient
from howeverled.webs import line_between


def row_rooms(chance):
    """The rooms of lines in a row that has the chance."""
    need(is_quotient(chance) and 0 < chance[0] < chance[1], "chance")
    return tuple(range(chance[0], chance[1]))


def row_piece(rooms):
    """A row of lines with these rooms, its two ends as doors."""
    many = len(rooms)
    lines = [(place, place + 1, room) for place, room in enumerate(rooms)]
    return ((many + 1, tuple(lines)), (0, many))


def ladder_of(worth):
    """A piece with doors (0, 1) that has the worth."""
    need(is_quotient(worth) and worth[0] > 0, "worth")
    lines = []
    end = 0
    size = 2
    # What is still to be laid between the end and house 1 is worth top / bottom, perhaps not in lowest terms.
    top, bottom = worth
    while top > 0:
        room, top = divmod(top, bottom)
        if room > 0:
            lines.append(line_between(end, 1, room))
        if top > 0:
            lines.append((end, size, 1))
            end = size
            size += 1
            top, bottom = 2 * top, bottom - top
    return ((size, tuple(lines)), (0, 1))
