"""Why an event can't be done."""

from howeverled.checks import is_house, is_line, need_standing
from howeverled.liveevents import is_event
from howeverled.rings import leads_back
from howeverled.spans import span_by

# At which places the entries of an event are houses.
HOUSES = {"line": (1, 2), "pay": (1, 2), "turn": (1,)}
ON_LINES = ("widen", "narrow", "close")


def reason_of(web, purses, event):
    """None if the event can be done, otherwise the first reason why not."""
    near = need_standing(web, purses)
    return reason_by(web, near, event)


def reason_by(web, near, event):
    """As reason_of, by near of a split."""
    if not is_event(event):
        return "shape"
    word = event[0]
    if not all([is_house(web[0], event[place]) for place in HOUSES.get(word, ())]):
        return "house"
    if word in ON_LINES and not is_line(web, event[1]):
        return "line"
    if word == "turn" and not leads_back(web, event[1], event[2]):
        return "ring"
    if word == "narrow" and event[2] + event[3] >= web[1][event[1]][2]:
        return "room"
    if word in ("narrow", "close") and not is_held(web, near, event):
        return "held"
    return None


def is_held(web, near, event):
    """True if some split with the same purses has at the line's ends what the event takes off."""
    first, last = span_by(web[1], near, event[1])
    least, most = due_near(web, event)
    return max(first, least) <= min(last, most)


def due_near(web, event):
    """The least and the most coins at the line's near end from which the event can take what it tells."""
    if event[0] == "close":
        return (event[2], event[2])
    _, line, near, far = event
    return (near, web[1][line][2] - far)
