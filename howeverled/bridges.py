"""Two webs joined by one line, or by one house."""

from howeverled.checks import is_house, need
from howeverled.crossings import chance_of_pair
from howeverled.gluing import glued
from howeverled.kinds import is_number, is_web
from howeverled.quotients import quotient_of, times
from howeverled.webchanges import beside, with_line


def need_ends(web, here, other, there):
    """A house of the web, another web, and a house of that one."""
    need(is_house(web[0], here), "here")
    need(is_web(other), "other")
    need(is_house(other[0], there), "there")


def bridged(web, here, other, there, room):
    """Both webs beside one another, with a line of this room between the two houses."""
    need_ends(web, here, other, there)
    return with_line(beside(web, other), here, web[0] + there, room)


def shared(web, here, other, there):
    """Both webs, with there laid on here."""
    need_ends(web, here, other, there)
    return glued((other, (there,)), web, (here,))


def bridged_chance(web, here, other, there, room, payer, payee):
    """The chance to pay over the bridge: from payer to here, along the line, from there to payee."""
    need_ends(web, here, other, there)
    need(is_number(room), "room")
    need(is_house(web[0], payer), "payer")
    need(is_house(other[0], payee), "payee")
    ends = times(chance_within(web, payer, here), chance_within(other, there, payee))
    return times(ends, quotient_of(room, room + 1))


def chance_within(web, payer, payee):
    """The chance of two houses, 1 for a house and itself."""
    return (1, 1) if payer == payee else chance_of_pair(web, payer, payee)
