"""Tables of forest weights, house by house."""

from howeverled.checks import need
from howeverled.errors import InvalidPaper
from howeverled.kinds import is_number, is_order, is_same, is_tuple_of
from howeverled.sweeps import NONE, frontier_by, sweep


def frontier_of(web, order, many):
    """The lot of those of the first many houses of the order that have a line to a later one."""
    size, lines = web
    need(is_order(size, order), "order")
    need(is_number(many) and many <= size, "many")
    return tuple(frontier_by(lines, order[:many]))


def tables_of(web, order):
    """A table for each number of first houses of the order."""
    size, lines = web
    need(is_order(size, order), "order")
    return tuple([told_table(table) for table in sweep(lines, order, [NONE] * size, 0)])


def told_table(table):
    """The pairs of joining and weight, ascending."""
    return tuple(sorted([(joining, sum(weights)) for (joining, _), weights in table.items()]))


def lets_tables(web, order, thing):
    """The forest weight, if the thing is tables_of the web by the order."""
    size, _ = web
    tables = tables_of(web, order)
    if not is_tuple_of(size + 1, thing):
        raise InvalidPaper("shape", -1)
    for many, table in enumerate(tables):
        if not is_same(table, thing[many]):
            raise InvalidPaper("table", many)
    _, weight = tables[size][0]
    return weight
