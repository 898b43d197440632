"""Asks as strings, and read from them."""

from howeverled.askkinds import is_asks
from howeverled.checks import need
from howeverled.errors import InvalidText
from howeverled.webtexts import read_rows

NO_ASKS = "-"


def asks_line(size, asks):
    """The asks as a string."""
    need(is_asks(size, asks), "asks")
    if asks == ():
        return NO_ASKS
    return "; ".join([" ".join([str(number) for number in row]) for row in asks])


def read_asks(size, text):
    """The asks that the text tells."""
    need(isinstance(text, str), "text")
    fields = text.split(" ")
    if fields[0] != NO_ASKS:
        rows = read_rows(fields, 0, True, 4, lambda before, row, number: can_stand(size, before, row, number))
        return tuple(rows)
    if len(fields) > 1:
        raise InvalidText(0, 1)
    return ()


def can_stand(size, rows, row, number):
    """True if the number can stand behind these rows and the numbers of its own row."""
    place = len(row)
    # A row begins no lower than the one ahead; once it is above it, all is free.
    ahead = rows[-1][place] if rows and rows[-1][:place] == tuple(row) else 0
    if place == 0:
        return ahead <= number < size
    if place == 1:
        return ahead <= number < size and number != row[0]
    return number > ahead if place == 2 else number >= 1
