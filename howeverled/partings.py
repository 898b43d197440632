"""Surroundings that tell two pieces apart."""

from howeverled.checks import is_house, need
from howeverled.doortables import door_table
from howeverled.errors import InvalidPaper
from howeverled.joinings import blocks_in, joinings_of
from howeverled.kinds import is_joining, is_tuple_of
from howeverled.pairshares import refused_share
from howeverled.piecekinds import need_as_many_doors
from howeverled.webs import line_between


def parted_web(piece, joining):
    """The piece's web with lines of room 1 along the doors of each block of the joining."""
    (size, lines), doors = piece
    need(is_joining(len(doors), joining), "joining")
    rows = list(lines)
    for block in blocks_in(joining):
        rows.extend([line_between(doors[one], doors[other], 1) for one, other in zip(block, block[1:])])
    return (size, tuple(rows))


def parting_of(piece, other):
    """None for pieces that are alike, otherwise a joining and two doors whose shares differ in the parted webs."""
    need_as_many_doors(piece, other)
    joinings = joinings_of(len(piece[1]))
    mine = door_table(piece)
    theirs = door_table(other)
    apart = [
        joining for joining, one, two in zip(joinings, mine, theirs)
        if one * theirs[-1] != two * mine[-1]
    ]
    if not apart:
        return None
    return parting_by(max(apart, key=lambda joining: len(set(joining))))


def parting_by(joining):
    """The parting told by a joining with most blocks of those at which two door tables are apart.

    The last door of a block is let stand alone: all joinings that the lines
    then make have more blocks, so that the tables agree there. Made one with
    the door ahead of it, it comes to the joining that tells, and else again
    only to joinings with more blocks.
    """
    block = [block for block in blocks_in(joining) if len(block) > 1][0]
    here, there = block[-2:]
    return (joining[:there] + (there,) + joining[there + 1:], here, there)


def lets_parting(piece, other, thing):
    """The pair of the two shares, if the thing is a parting of the pieces."""
    need_as_many_doors(piece, other)
    if not is_tuple_of(3, thing):
        raise InvalidPaper("shape", -1)
    joining, here, there = thing
    many = len(piece[1])
    if not is_joining(many, joining):
        raise InvalidPaper("joining", -1)
    if not are_parted(many, joining, here, there):
        raise InvalidPaper("doors", -1)
    share = parted_share(piece, joining, here, there)
    told = parted_share(other, joining, here, there)
    if share == told:
        raise InvalidPaper("alike", -1)
    return (share, told)


def are_parted(many, joining, here, there):
    """True for places of doors in unlike blocks of the joining, here below there."""
    if not is_house(many, here) or not is_house(many, there):
        return False
    return here < there and joining[here] != joining[there]


def parted_share(piece, joining, here, there):
    """The share of refusals of one coin from door to door in the parted web."""
    _, doors = piece
    return refused_share(parted_web(piece, joining), doors[here], doors[there], 1)
