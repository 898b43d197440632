"""Splits of standings."""

from howeverled.checks import need_standing


def some_split(web, purses):
    """Any split with these purses."""
    return tuple(need_standing(web, purses))
