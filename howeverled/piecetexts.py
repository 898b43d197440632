"""Pieces as strings, and read from them."""

from howeverled.checks import need
from howeverled.errors import InvalidText
from howeverled.webtexts import field_at, number_from, read_sized, web_line

DOORS = "doors"
STROKE = "|"


def piece_line(piece):
    """The piece as a string."""
    web, doors = piece
    return " ".join([DOORS, *[str(door) for door in doors], STROKE, web_line(web)])


def read_piece(text):
    """The piece that the text tells."""
    need(isinstance(text, str), "text")
    fields = text.split(" ")
    if fields[0] != DOORS:
        raise InvalidText(0, 0)
    doors = []
    place = 1
    while not doors or field_at(fields, place) != STROKE:
        door = number_from(fields, place, 0, None)
        if door in doors:
            raise InvalidText(0, place)
        doors.append(door)
        place += 1
    size, rows = read_sized(fields, place + 1, max(doors) + 1, 3)
    return ((size, tuple(rows)), tuple(doors))
