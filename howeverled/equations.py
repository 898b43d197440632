"""Equations solved over whole numbers."""

from howeverled.quotients import quotient_of


def solved(rows):
    """The quotients that solve as many equations as there are quotients, of which there is just one solution.

    A row has the factor of each quotient, and last what they add up to.
    """
    table = [list(row) for row in rows]
    # Each row stays in whole numbers: what is divided by has been multiplied with a step before.
    many = len(table)
    before = 1
    for at in range(many):
        usable = [place for place in range(at, many) if table[place][at] != 0][0]
        table[at], table[usable] = table[usable], table[at]
        first = table[at]
        table = [
            row if place == at else lessened_row(row, first, at, before)
            for place, row in enumerate(table)
        ]
        before = first[at]
    return tuple([quotient_of(row[-1], row[at]) for at, row in enumerate(table)])


def lessened_row(row, first, at, before):
    """The row with the first row taken off it as often as gives nought at this place."""
    return [(first[at] * value - row[at] * taken) // before for value, taken in zip(row, first)]
