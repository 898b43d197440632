"""What may lie at a line's ends."""

from howeverled.checks import is_line, need, need_standing
from howeverled.errors import NotUsable
from howeverled.flows import most_led, near_of
from howeverled.kinds import is_number
from howeverled.webchanges import without_line


def span_of(web, purses, line):
    """The least and the most coins at the line's near end, over all splits with these purses."""
    near = need_standing(web, purses)
    need(is_line(web, line), "line")
    return span_by(web[1], near, line)


def span_by(lines, near, line):
    """As span_of, by near of a split."""
    one, other, room = lines[line]
    out, _ = most_led(lines, near, one, other)
    back, _ = most_led(lines, near, other, one)
    return (max(0, room - back), min(room, out))


def split_holding(web, purses, line, near):
    """Any split with these purses and near coins at the line's near end."""
    ends = need_standing(web, purses)
    need(is_line(web, line), "line")
    least, most = span_by(web[1], ends, line)
    if not is_number(near) or not least <= near <= most:
        raise NotUsable("near", -1)
    one, other, room = web[1][line]
    rest = list(purses)
    rest[one] -= near
    rest[other] -= room - near
    split = near_of(without_line(web, line), tuple(rest))
    return (*split[:line], near, *split[line:])
