"""All standings of a web."""

from howeverled.checks import is_house, need
from howeverled.marking import marked_purses
from howeverled.numbering import next_marks


def all_standings(web):
    """All standings, ascending."""
    size, lines = web
    found = {(0,) * size: True}
    for one, other, room in lines:
        wider = {}
        for purses in found:
            for near in range(room + 1):
                wider[laid(purses, one, near, other, room - near)] = True
        found = wider
    return tuple(sorted(found))


def laid(purses, one, near, other, far):
    """The purses with near coins more at one house and far coins more at the other one."""
    after = list(purses)
    after[one] += near
    after[other] += far
    return tuple(after)


def standings_from(web, root):
    """All standings, one by one, in the sequence of their numbers by the root."""
    need(is_house(web[0], root), "root")
    marks = (0,) * len(web[1])
    while marks is not None:
        yield marked_purses(web, marks, root)
        marks = next_marks(web, marks, root)
