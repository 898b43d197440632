"""Coins led over lines: ways, how wide they are, and what is left behind.

Here lines are any sequence of triples (one, other, room), and near is a
sequence with the coins at each line's end at one. Nothing is checked.
"""

from howeverled.kinds import is_purses


def steps_from(lines, near, house):
    """The steps that a coin can be led from the house: (line, house at its other end, coins)."""
    steps = []
    for line, (one, other, room) in enumerate(lines):
        if house == one and near[line] > 0:
            steps.append((line, other, near[line]))
        elif house == other and near[line] < room:
            steps.append((line, one, room - near[line]))
    return steps


def shortest_ways(lines, near, starts):
    """For each house to which a coin can come from the starts: the start, and a way with the fewest lines."""
    ways = {start: (start, ()) for start in starts}
    queue = list(starts)
    at = 0
    while at < len(queue):
        house = queue[at]
        start, way = ways[house]
        for line, end, _ in steps_from(lines, near, house):
            if end not in ways:
                ways[end] = (start, (*way, line))
                queue.append(end)
        at += 1
    return ways


def widest_way(lines, near, here, there):
    """A pair: the most coins that can be led along one way, and such a way; there is a way."""
    best = {here: (sum([room for _, _, room in lines]), ())}
    settled = {}
    while there not in settled:
        waiting = [house for house in best if house not in settled]
        house = max(waiting, key=lambda one: best[one][0])
        settled[house] = True
        width, way = best[house]
        for line, end, coins in steps_from(lines, near, house):
            wide = min(width, coins)
            if end not in best or wide > best[end][0]:
                best[end] = (wide, (*way, line))
    return best[there]


def houses_along(lines, house, way):
    """The houses that the lines lead to, one after the other, house first; None if they do not lead on."""
    houses = [house]
    for line in way:
        one, other, _ = lines[line]
        if houses[-1] == one:
            houses.append(other)
        elif houses[-1] == other:
            houses.append(one)
        else:
            return None
    return houses


def width_along(lines, near, house, way):
    """The most coins that can be led along a way or a ring from the house."""
    houses = houses_along(lines, house, way)
    widths = []
    for line, start in zip(way, houses):
        one, _, room = lines[line]
        widths.append(near[line] if start == one else room - near[line])
    return min(widths)


def led(lines, near, house, way, coins):
    """Near behind the coins led along a way or a ring from the house."""
    after = list(near)
    houses = houses_along(lines, house, way)
    for line, start in zip(way, houses):
        after[line] += -coins if start == lines[line][0] else coins
    return after


def most_led(lines, near, here, there):
    """A pair: the most coins that can be led from here to there, and near behind them."""
    after = list(near)
    most = 0
    ways = shortest_ways(lines, after, [here])
    while there in ways:
        _, way = ways[there]
        coins = width_along(lines, after, here, way)
        after = led(lines, after, here, way, coins)
        most += coins
        ways = shortest_ways(lines, after, [here])
    return (most, after)


def held_by(size, lines, near):
    """What each house holds."""
    held = [0] * size
    for (one, other, room), coins in zip(lines, near):
        held[one] += coins
        held[other] += room - coins
    return held


def levelled(lines, near, over):
    """Coins led from houses with too much, over above 0, to those with too little, as far as they can be.

    A triple: near behind them, the over that is left, and the lot of the
    houses to which those that still have too much can lead a coin.
    """
    after = list(near)
    left = list(over)
    while True:
        starts = [house for house, more in enumerate(left) if more > 0]
        ways = shortest_ways(lines, after, starts)
        ends = [house for house in ways if left[house] < 0]
        if not ends:
            return (after, left, tuple(sorted(ways)))
        end = ends[0]
        start, way = ways[end]
        coins = min(left[start], -left[end], width_along(lines, after, start, way))
        after = led(lines, after, start, way, coins)
        left[start] -= coins
        left[end] += coins


def level_to(size, lines, purses):
    """As levelled, from a split with all coins near to one with these purses."""
    near = [room for _, _, room in lines]
    held = held_by(size, lines, near)
    return levelled(lines, near, [has - purse for has, purse in zip(held, purses)])


def near_of(web, thing):
    """Near of some split with these purses, None if the thing is no standing."""
    size, lines = web
    if not is_purses(size, thing) or sum(thing) != sum([room for _, _, room in lines]):
        return None
    near, left, _ = level_to(size, lines, thing)
    return near if max(left) == 0 else None


def walk_on(lines, change, start, goals):
    """The houses and lines that coins go by from the start, until a goal or a house where they were before.

    change has for each line by how much near grows: coins go to the line's
    first house where it is above 0, and from it where it is below.
    """
    houses = [start]
    way = []
    while houses[-1] not in goals and houses[-1] not in houses[:-1]:
        for line, (one, other, _) in enumerate(lines):
            if (change[line] < 0 and houses[-1] == one) or (change[line] > 0 and houses[-1] == other):
                way.append(line)
                houses.append(other if houses[-1] == one else one)
                break
    return (houses, way)


def lessened(change, way, coins):
    """The change that is left when coins have been led along the way."""
    left = list(change)
    for line in way:
        left[line] += coins if left[line] < 0 else -coins
    return left


def narrowest(change, way):
    """The most coins that go along the whole way by the change."""
    return min([abs(change[line]) for line in way])


def paid_over(purses, payer, payee, coins):
    """The purses behind a payment; whether it can be made is not asked."""
    after = list(purses)
    after[payer] -= coins
    after[payee] += coins
    return tuple(after)
