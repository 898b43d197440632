"""Door tables: what a piece weighs with its doors made one in each way."""

from howeverled.checks import need
from howeverled.forestweights import forest_weight
from howeverled.gluing import doors_made
from howeverled.joinedweights import weight_labelled
from howeverled.joinings import joinings_of
from howeverled.kinds import are_different, are_positive, is_positive, is_tuple_of
from howeverled.quotients import quotient_of

MOST_DOORS = 4


def is_table(many, thing):
    """True for a tuple of integers of at least 1, one for each joining of so many doors: one to four."""
    if not is_positive(many) or many > MOST_DOORS:
        return False
    return is_tuple_of(len(joinings_of(many)), thing) and are_positive(thing)


def door_table(piece):
    """The piece's own table: a forest weight for each joining of its doors."""
    _, doors = piece
    return tuple([forest_weight(doors_made(piece, joining)) for joining in joinings_of(len(doors))])


def factor_of(table, other):
    """The quotient by which each entry of the table is to be multiplied to give the other one's, or None."""
    need(are_positive(table) and table != (), "table")
    need(are_positive(other) and other != (), "other")
    if len(table) != len(other):
        return None
    if any([mine * other[0] != theirs * table[0] for mine, theirs in zip(table, other)]):
        return None
    return quotient_of(other[0], table[0])


def glued_weight(web, places, table):
    """The forest weight of the web with a piece glued to it at the places that has this door table."""
    need(are_different(web[0], places), "places")
    need(is_table(len(places), table), "table")
    weights = [weight_labelled(web, places, joining) for joining in joinings_of(len(places))]
    return sum([weight * entry for weight, entry in zip(weights, table)])
