"""Pieces with two doors seen from outside, as a line of their length."""

from howeverled.checks import need, need_pair, need_payment
from howeverled.forestweights import forest_weight
from howeverled.lengths import length_at
from howeverled.lengthtables import is_lengths
from howeverled.openforms import share_form
from howeverled.pairshares import refused_count
from howeverled.webchanges import made_one, with_line
from howeverled.webs import bond_of


def need_open(web, here, there, table):
    """Two houses, and a table of lengths between them."""
    need_pair(web, here, there)
    need(is_lengths(table), "table")


def over_table(table, still, by_room):
    """The sum, over the table, of what stands still with by_room more for each coin of the length."""
    return sum([many * (still + by_room * length) for length, many in table])


def refused_through(web, here, there, table, payer, payee, coins):
    """The number of refusals in the web with the line between here and there, over all lengths of the table."""
    need_open(web, here, there, table)
    need_payment(web[0], payer, payee, coins)
    if coins <= bond_of(web, payer, payee) + 1:
        still, by_room, _, _ = share_form(web, here, there, payer, payee)
        return coins * over_table(table, still, by_room)
    counts = [
        many * refused_count(with_line(web, here, there, length), payer, payee, coins)
        for length, many in table
    ]
    return sum(counts)


def total_through(web, here, there, table):
    """The forest weight of the web with the line between here and there, over all lengths of the table."""
    need_open(web, here, there, table)
    return over_table(table, forest_weight(web), forest_weight(made_one(web, here, there)))


def quiet_room(piece, purses):
    """The room of the line for which the piece stands while its inner houses rest."""
    return length_at(piece, purses)


def quiet_web(web, here, there, piece, purses):
    """The web with the line for which the piece stands between here and there."""
    need_pair(web, here, there)
    return with_line(web, here, there, quiet_room(piece, purses))
