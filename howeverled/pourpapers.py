"""On which places coins are poured."""

from howeverled.checks import is_house, need
from howeverled.errors import InvalidPaper
from howeverled.kinds import is_number


def pour_paper(rooms, many):
    """The places on which so many coins are poured, in sequence."""
    need(is_number(many), "many")
    now = list(rooms)
    places = []
    for _ in range(many):
        place = now.index(min(now))
        now[place] += 1
        places.append(place)
    return tuple(places)


def lets_pouring(rooms, thing):
    """The rooms after a coin was laid on each place of the thing, always one of least room."""
    if not isinstance(thing, tuple):
        raise InvalidPaper("shape", -1)
    now = list(rooms)
    for at, place in enumerate(thing):
        # A place is a number below how many there are, as a house is.
        if not is_house(len(now), place):
            raise InvalidPaper("place", at)
        if now[place] > min(now):
            raise InvalidPaper("least", at)
        now[place] += 1
    return tuple(now)
