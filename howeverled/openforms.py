"""Shares of refusals as forms: by the room of one line that is still open."""

from howeverled.checks import need, need_pair, need_payer
from howeverled.forestweights import forest_weight
from howeverled.joinings import joined_two
from howeverled.kinds import is_number, is_positive, is_quotient, is_tuple_of
from howeverled.quotients import quotient_of
from howeverled.webchanges import made_by, made_one


def is_form(thing):
    """True for four numbers, the last two at least 1."""
    if not is_tuple_of(4, thing):
        return False
    return all([is_number(one) for one in thing[:2]]) and all([is_positive(one) for one in thing[2:]])


def share_form(web, here, there, payer, payee):
    """The form of the share of refusals of one coin, with a further line of open room between here and there."""
    need_pair(web, here, there)
    need_payer(web[0], payer, payee)
    joining = joined_two(tuple(range(web[0])), here, there)
    return (*refused_weights(web, joining, payer, payee), *all_weights(web, joining))


def all_weights(web, joining):
    """The forest weights of the web, and of the web made one by the joining."""
    return (forest_weight(web), forest_weight(made_by(web, joining)))


def refused_weights(web, joining, payer, payee):
    """The forest weights with payer and payee made one, in the web and in the web made one by the joining."""
    alone = forest_weight(made_one(web, payer, payee))
    # Where the joining has made the two one already, the open line leads between them and falls away.
    if joining[payer] == joining[payee]:
        return (alone, 0)
    return (alone, forest_weight(made_by(web, joined_two(joining, payer, payee))))


def share_at(form, room):
    """The quotient for which the form stands at the room."""
    need(is_number(room), "room")
    a, b, d, e = form
    return quotient_of(a + b * room, d + e * room)


def sign_of(form):
    """1 if more room raises it, -1 if more room lowers it, 0 if it is the same at all rooms."""
    a, b, d, e = form
    rise = b * d - a * e
    if rise == 0:
        return 0
    return 1 if rise > 0 else -1


def least_room(form, wish):
    """The least room at which it is at most the wish, or None."""
    need(is_quotient(wish), "wish")
    a, b, d, e = form
    top, bottom = wish
    # At a room c it is at most the wish just if c times the gain is not below what is missing at 0.
    missing = bottom * a - top * d
    gain = top * e - bottom * b
    if missing <= 0:
        return 0
    return -(-missing // gain) if gain > 0 else None


def end_of(form):
    """The quotient to which it comes as the room grows for ever."""
    _, b, _, e = form
    return quotient_of(b, e)
