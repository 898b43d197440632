"""Shares of refusals along the lines, and means."""

from howeverled.pairshares import refused_share
from howeverled.quotients import added_up, quotient_of, times
from howeverled.webs import hold_of


def line_shares(web):
    """For each line the share of refusals of one coin from its first house to its other one."""
    return tuple([refused_share(web, one, other, 1) for one, other, _ in web[1]])


def lines_mean(web):
    """The shares of the lines, each times the room of its line, added."""
    parts = [times((room, 1), share) for (_, _, room), share in zip(web[1], line_shares(web))]
    return added_up(parts)


def purse_mean(web, house):
    """The mean of the purse of the house over all standings."""
    # A standing turned over is one again: with it the purse makes up the rooms of the lines at the house.
    return quotient_of(hold_of(web, house), 2)
