"""Two pieces put beside, or behind, one another."""

from howeverled.gluing import glued
from howeverled.piecekinds import inner_of, need_two_doors


def piece_beside(piece, other):
    """The piece with the other one's doors laid on its own, in their sequence."""
    need_two_doors(piece, "piece")
    need_two_doors(other, "other")
    web, doors = piece
    return (glued(other, web, doors), doors)


def piece_behind(piece, other):
    """The piece with the other one's first door laid on its second one."""
    need_two_doors(piece, "piece")
    need_two_doors(other, "other")
    web, (first, middle) = piece
    more, (start, end) = other
    # Glued at its first door alone, the other one has its second door among the inner houses.
    tail = (more, (start,))
    last = web[0] + inner_of(tail).index(end)
    return (glued(tail, web, (middle,)), (first, last))
