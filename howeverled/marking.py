"""Standings to marked forests and back."""

from howeverled.checks import is_house, need, need_standing
from howeverled.flows import held_by, level_to, most_led
from howeverled.markkinds import is_marked


class Taking:
    """A web of which a host takes line by line; houses keep their numbers, and lines their places.

    rows are the lines that are left, each a pair of its place and the line.
    """

    def __init__(self, web, root):
        size, lines = web
        self.size = size
        self.rows = list(enumerate(lines))
        self.host = root
        self.met = {root: True}

    def taken(self):
        """The line that is taken now: its place, its end that is not the host, its room; None if none is left."""
        while self.rows:
            for place, (one, other, room) in reversed(self.rows):
                if self.host in (one, other):
                    return (place, other if self.host == one else one, room)
            self.host = [house for house in range(self.size) if house not in self.met][0]
            self.met[self.host] = True
        return None

    def let_go(self, line):
        """The line goes."""
        self.rows = [row for row in self.rows if row[0] != line]

    def merge(self, house):
        """The house and the host are made one, and the lines between them go; their rooms are returned, added."""
        rows = []
        gone = 0
        for place, (one, other, room) in self.rows:
            first = self.host if one == house else one
            last = self.host if other == house else other
            if first == last:
                gone += room
            else:
                rows.append((place, (first, last, room)))
        self.rows = rows
        self.met[house] = True
        return gone


def lines_in(rows):
    """The lines of the rows."""
    return [line for _, line in rows]


def most_at(rows, purses, here, there):
    """The most that here can pay there by the lines of the rows; nothing is checked."""
    lines = lines_in(rows)
    near, _, _ = level_to(len(purses), lines, purses)
    most, _ = most_led(lines, near, here, there)
    return most


def rows_taken(web, purses, root):
    """For each line that is taken (line, i, mark), in the sequence in which they are taken."""
    taking = Taking(web, root)
    held = list(purses)
    told = []
    taken = taking.taken()
    while taken is not None:
        line, house, room = taken
        host = taking.host
        most = most_at(taking.rows, held, host, house)
        if 1 <= most <= room:
            gone = taking.merge(house)
            held[host] += held[house] - gone
            held[house] = 0
        else:
            taking.let_go(line)
            held[house if most == 0 else host] -= room
        told.append((line, most, most if most <= room else 0))
        taken = taking.taken()
    return told


def need_rooted(web, purses, root):
    """A standing and a root."""
    need_standing(web, purses)
    need(is_house(web[0], root), "root")


def marked_of(web, purses, root):
    """The marked forest of the standing, by the root."""
    need_rooted(web, purses, root)
    marks = [0] * len(web[1])
    for line, _, mark in rows_taken(web, purses, root):
        marks[line] = mark
    return tuple(marks)


def standing_of(web, marks, root):
    """The standing whose marked forest, by the root, is this one."""
    need(is_marked(web, marks), "marks")
    need(is_house(web[0], root), "root")
    return marked_purses(web, marks, root)


def marked_purses(web, marks, root):
    """As standing_of; nothing is checked."""
    purses = [0] * web[0]
    # Which lines are taken, and what goes with them, depends on the marks alone: from the end,
    # when nothing is left, the purses come back stage by stage. A line with the mark 0 lay at its
    # other house if the host can pay that one nothing without it; else, had it lain there, i would
    # have been from 1 up, and it lay at the host, for whom i is then above the room.
    for line, before, after, host, house, room in reversed(stages_of(web, marks, root)):
        if marks[line] > 0:
            purses = purses_parted(before, after, purses, host, house, marks[line])
        elif most_at(after, purses, host, house) == 0:
            purses[house] += room
        else:
            purses[host] += room
    return tuple(purses)


def stages_of(web, marks, root):
    """For each line taken: its place, the rows before and after, the host, the line's other end, and its room."""
    taking = Taking(web, root)
    stages = []
    taken = taking.taken()
    while taken is not None:
        line, house, room = taken
        before = taking.rows
        host = taking.host
        if marks[line] > 0:
            taking.merge(house)
        else:
            taking.let_go(line)
        stages.append((line, before, taking.rows, host, house, room))
        taken = taking.taken()
    return stages


def purses_parted(before, after, purses, host, house, mark):
    """The purses ahead of host and house being made one, by which the host can pay the house just the mark."""
    near, _, _ = level_to(len(purses), lines_in(after), purses)
    near_at = {place: coins for (place, _), coins in zip(after, near)}
    lines = lines_in(before)
    ends = [near_at.get(place, 0) for place, _ in before]
    held = held_by(len(purses), lines, ends)
    most, _ = most_led(lines, ends, host, house)
    held[host] += mark - most
    held[house] -= mark - most
    return held
