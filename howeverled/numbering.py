"""Numbers of standings, by a root."""

from howeverled.checks import is_house, need
from howeverled.forestweights import forest_weight
from howeverled.kinds import is_number
from howeverled.marking import Taking, marked_of, marked_purses, stages_of
from howeverled.webs import line_between


def number_of(web, purses, root):
    """The number of the standing, by the root."""
    marks = marked_of(web, purses, root)
    taking = Taking(web, root)
    number = 0
    taken = taking.taken()
    while taken is not None:
        line, house, _ = taken
        if marks[line] > 0:
            number += weight_without(taking, line)
            taking.merge(house)
            number += (marks[line] - 1) * weight_left(taking)
        else:
            taking.let_go(line)
        taken = taking.taken()
    return number


def weight_left(taking):
    """The forest weight of what is left."""
    return weight_by(taking.size, taking.rows)


def weight_without(taking, line):
    """The forest weight of what is left without the line."""
    return weight_by(taking.size, [row for row in taking.rows if row[0] != line])


def weight_by(size, rows):
    """The forest weight of the lines of the rows; houses made one with others count as houses without lines."""
    lines = [line_between(one, other, room) for _, (one, other, room) in rows]
    return forest_weight((size, tuple(lines)))


def standing_at(web, number, root):
    """The standing with this number, by the root."""
    need(is_number(number) and number < forest_weight(web), "number")
    need(is_house(web[0], root), "root")
    return marked_purses(web, marks_at(web, number, root), root)


def marks_at(web, number, root):
    """The marked forest of the standing with this number."""
    marks = [0] * len(web[1])
    taking = Taking(web, root)
    left = number
    taken = taking.taken()
    while taken is not None:
        line, house, _ = taken
        without = weight_without(taking, line)
        if left < without:
            taking.let_go(line)
        else:
            taking.merge(house)
            more, left = divmod(left - without, weight_left(taking))
            marks[line] = more + 1
        taken = taking.taken()
    return tuple(marks)


def next_standing(web, purses, root):
    """The standing with the next number, by the root, or None."""
    marks = next_marks(web, marked_of(web, purses, root), root)
    return None if marks is None else marked_purses(web, marks, root)


def next_marks(web, marks, root):
    """The marked forest of the standing with the next number, or None.

    Numbers rise as the marks do, taken in the sequence in which the lines are
    taken: the last mark that can rise does, and all behind it begin anew.
    """
    lines = [stage[0] for stage in stages_of(web, marks, root)]
    rising = [place for place, line in enumerate(lines) if marks[line] < web[1][line][2]]
    if not rising:
        return None
    after = [0] * len(marks)
    for line in lines[:rising[-1]]:
        after[line] = marks[line]
    raised = lines[rising[-1]]
    after[raised] = marks[raised] + 1
    return tuple(after)
