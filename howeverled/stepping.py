"""What an event does to a web and its split."""

from howeverled.checks import is_rule, need, need_split
from howeverled.errors import InvalidEvent
from howeverled.flows import held_by, led, most_led, width_along
from howeverled.reasons import due_near, reason_by
from howeverled.running import led_by
from howeverled.spans import span_by, split_holding
from howeverled.webs import line_between


def step_of(web, split, event, rule):
    """The web and a split behind the event, and False for a refused payment, True for all else."""
    need_split(web, split)
    need(is_rule(rule), "rule")
    reason = reason_by(web, split, event)
    if reason is not None:
        raise InvalidEvent(event, reason)
    return step_by(web, split, event, rule)


def step_by(web, split, event, rule):
    """As step_of; nothing is checked."""
    size, lines = web
    word = event[0]
    if word == "house":
        return ((size + 1, lines), split, True)
    if word == "line":
        return with_opened(web, split, event)
    if word == "pay":
        return paid_by(web, split, event, rule)
    if word == "turn":
        return (web, turned_by(web, split, event), True)
    if word in ("widen", "narrow", "close"):
        return with_changed(web, split, event)
    return (web, split, True)


def with_opened(web, split, event):
    """The step of a new line."""
    size, lines = web
    _, one, other, near, far = event
    line = line_between(one, other, near + far)
    return ((size, (*lines, line)), (*split, near if one < other else far), True)


def with_changed(web, split, event):
    """The step of a line that grows, gets narrower or goes."""
    size, lines = web
    line = event[1]
    one, other, room = lines[line]
    changed = ()
    ends = ()
    if event[0] == "widen":
        held = split
        changed = ((one, other, room + event[2] + event[3]),)
        ends = (held[line] + event[2],)
    else:
        held = held_between(web, split, line, due_near(web, event))
    if event[0] == "narrow":
        changed = ((one, other, room - event[2] - event[3]),)
        ends = (held[line] - event[2],)
    after = (size, (*lines[:line], *changed, *lines[line + 1:]))
    return (after, (*held[:line], *ends, *held[line + 1:]), True)


def held_between(web, split, line, bounds):
    """A split with the same purses and the line's near end within the bounds; there is one."""
    least, most = bounds
    if least <= split[line] <= most:
        return split
    first, _ = span_by(web[1], split, line)
    purses = tuple(held_by(web[0], web[1], split))
    return split_holding(web, purses, line, max(first, least))


def paid_by(web, split, event, rule):
    """The step of a payment, led by the rule, or refused."""
    _, payer, payee, coins = event
    most, _ = most_led(web[1], split, payer, payee)
    if most < coins:
        return (web, split, False)
    return (web, tuple(led_by(web[1], split, payer, payee, coins, rule)), True)


def turned_by(web, split, event):
    """The split behind as many coins led along the ring as can be, at most as many as told."""
    _, house, ring, coins = event
    able = min(coins, width_along(web[1], split, house, ring))
    return tuple(led(web[1], split, house, ring, able))
