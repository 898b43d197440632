"""At how many standings all houses, or two of them, can pay one another."""

from howeverled.checks import need
from howeverled.forestweights import forest_weight, signed_weight
from howeverled.joinings import blocks_in, joinings_of
from howeverled.kinds import is_joining
from howeverled.stretches import stretch_table
from howeverled.sweeps import directed_ways
from howeverled.webchanges import kept_to, made_by, made_one
from howeverled.webs import bond_of, hangs_together


def all_pay_count(web):
    """The number of standings at which each house can pay each other one."""
    return signed_weight(web) if hangs_together(web) else 0


def class_count(web, joining):
    """The number of standings at which the classes of one coin are the blocks of the joining."""
    need(is_joining(web[0], joining), "joining")
    return classes_counted(web, joining)


def classes_counted(web, joining):
    """As class_count; nothing is checked."""
    count = 1
    for block in blocks_in(joining):
        count *= all_pay_count(kept_to(web, block))
    # Between two classes all coins of all lines lie at the same one, and no row of classes leads back.
    many, lines = made_by(web, joining)
    pairs = sorted(set([(one, other) for one, other, _ in lines]))
    return count * directed_ways(many, pairs)


def class_table(web):
    """All joinings that some standing has as its classes, each with its number of standings, ascending."""
    counts = [(joining, classes_counted(web, joining)) for joining in joinings_of(web[0])]
    return tuple([(joining, count) for joining, count in counts if count > 0])


def both_count(web, here, there):
    """The number of standings at which each of the two can pay the other one."""
    # On a stretch of two linked houses just the standings at its two ends bar one of them.
    if bond_of(web, here, there) > 0:
        return forest_weight(web) - 2 * forest_weight(made_one(web, here, there))
    return sum([many * max(length - 1, 0) for length, many in stretch_table(web, here, there)])


def neither_count(web, here, there):
    """The number of standings at which neither of the two can pay the other one."""
    if bond_of(web, here, there) > 0:
        return 0
    return sum([many for length, many in stretch_table(web, here, there) if length == 0])
