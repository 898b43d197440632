"""Reckoning with tables of lengths."""

from howeverled.checks import need
from howeverled.doortables import factor_of
from howeverled.kinds import is_number, is_positive, is_tuple_of
from howeverled.quotients import quotient_of


def is_lengths(thing):
    """True for a table of lengths."""
    if not isinstance(thing, tuple) or thing == ():
        return False
    if not all([is_tuple_of(2, pair) and is_number(pair[0]) and is_positive(pair[1]) for pair in thing]):
        return False
    return all([one[0] < other[0] for one, other in zip(thing, thing[1:])])


def need_tables(one, other):
    """Two tables of lengths, by the names one and other."""
    need(is_lengths(one), "one")
    need(is_lengths(other), "other")


def table_beside(one, other):
    """The table of lengths of two pieces side by side."""
    need_tables(one, other)
    counts = {}
    for length, many in one:
        for more, times_more in other:
            counts[length + more] = counts.get(length + more, 0) + many * times_more
    return tuple(sorted(counts.items()))


def table_behind(one, other):
    """The table of lengths of two pieces one behind the other."""
    need_tables(one, other)
    # Of two lengths the lesser one comes as often as they differ, and once more; each length below it twice.
    bars = {}
    for length, many in one:
        for more, times_more in other:
            least = min(length, more)
            alone, twice = bars.get(least, (0, 0))
            both = many * times_more
            bars[least] = (alone + both * (abs(length - more) + 1), twice + both * 2)
    counts = []
    above = 0
    for length in range(max(list(bars)), -1, -1):
        alone, twice = bars.get(length, (0, 0))
        counts.append((length, above + alone))
        above += twice
    return tuple(reversed(counts))


def mean_length(table):
    """The mean of the lengths over all stretches."""
    need(is_lengths(table), "table")
    return quotient_of(sum([length * many for length, many in table]), sum([many for _, many in table]))


def weight_by(table):
    """The sum of the lengths, each with 1 added, over all stretches."""
    need(is_lengths(table), "table")
    return sum([(length + 1) * many for length, many in table])


def lengths_alike(table, other):
    """True if the tables have the same lengths, and counts that are alike."""
    need(is_lengths(table), "table")
    need(is_lengths(other), "other")
    if [length for length, _ in table] != [length for length, _ in other]:
        return False
    counts = tuple([many for _, many in table])
    return factor_of(counts, tuple([many for _, many in other])) is not None
