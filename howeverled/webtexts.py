"""Webs and splits as texts, and read from them."""

from howeverled.checks import need, need_split
from howeverled.errors import InvalidText

FIGURES = "0123456789"


def web_line(web):
    """The web as a string."""
    size, lines = web
    return text_of(size, lines)


def limits_line(web, split):
    """The web as a string, with near and far of each line instead of its room."""
    size, lines = web
    need_split(web, split)
    rows = [(one, other, near, room - near) for (one, other, room), near in zip(lines, split)]
    return text_of(size, rows)


def text_of(size, rows):
    """The size and the rows, with a ; ahead of each row."""
    parts = [str(size)]
    for row in rows:
        parts.append(" ".join([str(number) for number in row]))
    return "; ".join(parts)


def read_web(text):
    """The web that the text tells."""
    need(isinstance(text, str), "text")
    size, rows = read_sized(text.split(" "), 0, 1, 3)
    return (size, tuple(rows))


def read_limits(text):
    """The web and the split that the text tells."""
    need(isinstance(text, str), "text")
    size, rows = read_sized(text.split(" "), 0, 1, 4)
    lines = [(one, other, near + far) for one, other, near, far in rows]
    split = [near for _, _, near, _ in rows]
    return ((size, tuple(lines)), tuple(split))


def is_figures(field):
    """True for a number as it is written, without a needless 0 ahead."""
    if field == "" or not all([sign in FIGURES for sign in field]):
        return False
    return field == "0" or field[0] != "0"


def field_at(fields, place):
    """The field at the place, if there is one."""
    if place == len(fields):
        raise InvalidText(0, place)
    return fields[place]


def number_from(fields, place, least, bound):
    """The number at the place, at least the least and below the bound, if there is one."""
    field = field_at(fields, place)
    if not is_figures(field) or int(field) < least or (bound is not None and int(field) >= bound):
        raise InvalidText(0, place)
    return int(field)


def read_sized(fields, start, least, width):
    """The size, at least the least, told at the start, and the rows of as many numbers as the width tells."""
    size, due = read_size(fields, start, least)
    rows = read_rows(fields, start + 1, due, width, lambda rows, row, number: may_follow(size, width, row, number))
    return (size, rows)


def read_rows(fields, start, due, width, can_follow):
    """The rows of as many numbers as the width tells, from a field on; behind each but the last is a ;.

    due is True if there is a row at all. can_follow tells whether the number
    can stand behind the rows before and the numbers of its own row.
    """
    rows = []
    row = []
    for place, field in enumerate(fields[start:], start=start):
        ends = len(row) == width - 1
        more = ends and field.endswith(";")
        figures = field[:-1] if more else field
        if not due or not is_figures(figures) or not can_follow(rows, row, int(figures)):
            raise InvalidText(0, place)
        row.append(int(figures))
        if ends:
            rows.append(tuple(row))
            row = []
            due = more
    if due:
        raise InvalidText(0, len(fields))
    return rows


def read_size(fields, place, least):
    """The size at the place, and whether a row is due behind it: then there are two houses."""
    field = field_at(fields, place)
    due = field.endswith(";")
    figures = field[:-1] if due else field
    if not is_figures(figures) or int(figures) < max(least, 2 if due else 1):
        raise InvalidText(0, place)
    return (int(figures), due)


def may_follow(size, width, row, number):
    """True if some line's row, as wide as told, begins with the row and then the number."""
    if len(row) == 0:
        return number < size - 1
    if len(row) == 1:
        return row[0] < number < size
    return len(row) < width - 1 or sum(row[2:]) + number >= 1
