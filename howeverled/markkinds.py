"""Marked forests."""

from howeverled.checks import need
from howeverled.joinings import joined_two
from howeverled.kinds import is_split


def is_marked(web, thing):
    """True if the thing is a marked forest of the web."""
    size, lines = web
    # Marks are numbers up to the rooms, as a split has them.
    if not is_split(web, thing):
        return False
    joining = tuple(range(size))
    for mark, (one, other, _) in zip(thing, lines):
        if mark > 0:
            if joining[one] == joining[other]:
                return False
            joining = joined_two(joining, one, other)
    return True


def lines_of(web, marks):
    """The lines with a mark above 0, ascending."""
    need(is_marked(web, marks), "marks")
    return tuple([line for line, mark in enumerate(marks) if mark > 0])
