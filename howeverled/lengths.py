"""Lengths of the stretches between two doors."""

from howeverled.piecekinds import need_two_doors
from howeverled.stretches import stretch_at, stretch_table


def length_at(piece, purses):
    """The length of the doors' stretch through these purses."""
    need_two_doors(piece, "piece")
    web, (here, there) = piece
    _, length = stretch_at(web, purses, here, there)
    return length


def length_table(piece):
    """The piece's table of lengths."""
    need_two_doors(piece, "piece")
    web, (here, there) = piece
    return stretch_table(web, here, there)
