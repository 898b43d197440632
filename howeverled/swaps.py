"""Whether a piece may stand in the place of another one."""

from howeverled.checks import need
from howeverled.doortables import door_table, factor_of
from howeverled.lengths import length_table
from howeverled.lengthtables import lengths_alike, weight_by
from howeverled.piecekinds import is_piece, need_two_doors


def alike_one(piece, other):
    """True if they give the same shares of refusals of one coin in all surroundings."""
    need(is_piece(other), "other")
    if len(piece[1]) != len(other[1]):
        return False
    return factor_of(door_table(piece), door_table(other)) is not None


def alike_always(piece, other):
    """True if they give the same shares of refusals of all coins in all surroundings."""
    mine, theirs = length_tables(piece, other)
    return lengths_alike(mine, theirs)


def length_tables(piece, other):
    """The tables of lengths of two pieces with two doors each."""
    need_two_doors(piece, "piece")
    need_two_doors(other, "other")
    return (length_table(piece), length_table(other))


def first_apart(piece, other):
    """The least coins whose shares of refusals from the first door to the second one differ, or None."""
    mine, theirs = length_tables(piece, other)
    longest = max(mine[-1][0], theirs[-1][0])
    # More coins than one above the longest stretch are refused at all standings of both.
    for coins in range(1, longest + 2):
        if refused_by(mine, coins) * weight_by(theirs) != refused_by(theirs, coins) * weight_by(mine):
            return coins
    return None


def refused_by(table, coins):
    """The number of standings at which the coins are refused between the doors, by the table of lengths."""
    return sum([many * min(coins, length + 1) for length, many in table])
