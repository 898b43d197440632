"""Joinings, and the blocks of what they join."""

from howeverled.checks import need
from howeverled.kinds import is_joining, is_lot


def joinings_of(many):
    """All joinings of many things, in sequence."""
    begun = [()]
    for place in range(many):
        begun = [(*head, least) for head in begun for least in (*sorted(set(head)), place)]
    return tuple(begun)


def blocks_of(many, joining):
    """The blocks, by their least."""
    need(is_joining(many, joining), "joining")
    return blocks_in(joining)


def blocks_in(joining):
    """The blocks, by their least; the joining is not checked."""
    blocks = {}
    for place, least in enumerate(joining):
        blocks.setdefault(least, []).append(place)
    return tuple([tuple(block) for block in blocks.values()])


def joining_of(many, lots):
    """The joining with these blocks."""
    need(are_blocks(many, lots), "lots")
    least_at = {place: lot[0] for lot in lots for place in lot}
    return tuple([least_at[place] for place in range(many)])


def are_blocks(many, thing):
    """True for a tuple of lots of places, none empty, each place in just one."""
    if not isinstance(thing, tuple) or not all([is_lot(many, lot) and lot != () for lot in thing]):
        return False
    return sorted([place for lot in thing for place in lot]) == list(range(many))


def joined_with(many, joining, other):
    """The joining of all that either one joins, with the most blocks."""
    need(is_joining(many, joining), "joining")
    need(is_joining(many, other), "other")
    both = joining
    for place, least in enumerate(other):
        both = joined_two(both, place, least)
    return both


def joined_two(joining, one, other):
    """The joining that joins two places too; nothing is checked."""
    low = min(joining[one], joining[other])
    high = max(joining[one], joining[other])
    return tuple([low if least == high else least for least in joining])
