"""Plain reckonings over all splits and all sets of lines, and webs to try them on."""

import random
from itertools import combinations, product

RING = (3, ((0, 1, 1), (0, 2, 1), (1, 2, 1)))
ROW = (3, ((0, 1, 2), (1, 2, 3)))
TWICE = (2, ((0, 1, 1), (0, 1, 2)))
HUGE = 10 ** 30


def splits(web):
    return list(product(*[range(room + 1) for _, _, room in web[1]]))


def purses_at(web, split):
    held = [0] * web[0]
    for (one, other, room), near in zip(web[1], split):
        held[one] += near
        held[other] += room - near
    return tuple(held)


def standings(web):
    """All standings, each with all its splits."""
    found = {}
    for split in splits(web):
        found.setdefault(purses_at(web, split), []).append(split)
    return found


def lots(size):
    return sorted(lot for many in range(size + 1) for lot in combinations(range(size), many))


def within(web, lot):
    return sum(room for one, other, room in web[1] if one in lot and other in lot)


def slack(web, purses, lot):
    return sum(purses[house] for house in lot) - within(web, lot)


def innermost(found):
    """The lot that lies within all others; there must be one."""
    inner = [lot for lot in found if all(set(lot) <= set(other) for other in found)]
    assert len(inner) == 1, found
    return inner[0]


def least_slack(web, purses, among):
    least = min(slack(web, purses, lot) for lot in among)
    return [lot for lot in among if slack(web, purses, lot) == least]


def bar(web, purses, here, there):
    among = [lot for lot in lots(web[0]) if here in lot and there not in lot]
    return innermost(least_slack(web, purses, among))


def moved(purses, here, there, coins):
    after = list(purses)
    after[here] -= coins
    after[there] += coins
    return tuple(after)


def most(known, purses, here, there):
    """The most that here can pay there, by the standings that there are."""
    coins = 0
    while moved(purses, here, there, coins + 1) in known:
        coins += 1
    return coins


def next_house(web, line, house):
    one, other, _ = web[1][line]
    if house == one:
        return other
    return one if house == other else None


def ways(web, here, there):
    """All ways, by trying."""
    found = []

    def go_on(house, seen, way):
        if house == there:
            found.append(way)
            return
        for line in range(len(web[1])):
            end = next_house(web, line, house)
            if end is not None and end not in seen:
                go_on(end, seen | {end}, way + (line,))

    go_on(here, {here}, ())
    return found


def rings(web, start):
    """All rings, by trying."""
    found = []

    def go_on(house, seen, way):
        for line in range(len(web[1])):
            end = next_house(web, line, house)
            if end is None or line in way:
                continue
            if end == start and len(way) > 0:
                found.append(way + (line,))
            elif end not in seen and end != start:
                go_on(end, seen | {end}, way + (line,))

    go_on(start, set(), ())
    return found


def width(web, split, house, way):
    """The most coins that can be led along."""
    widths = []
    for line in way:
        one, other, room = web[1][line]
        widths.append(split[line] if house == one else room - split[line])
        house = other if house == one else one
    return min(widths)


def led(web, split, house, way, coins):
    after = list(split)
    for line in way:
        one, other, _ = web[1][line]
        after[line] += -coins if house == one else coins
        house = other if house == one else one
    assert all(0 <= near <= line[2] for near, line in zip(after, web[1])), (web, split, house, way, coins)
    return tuple(after)


def kept(web, lot):
    number = {house: place for place, house in enumerate(lot)}
    lines = [(number[one], number[other], room) for one, other, room in web[1] if one in number and other in number]
    return (len(lot), tuple(lines))


def clubs(size, lines):
    """The joining by the lines."""
    club = list(range(size))
    for one, other, _ in lines:
        low, high = sorted((club[one], club[other]))
        club = [low if least == high else least for least in club]
    return tuple(club)


def joining_by(size, blocks):
    joining = [None] * size
    for block in blocks:
        for house in block:
            joining[house] = min(block)
    return tuple(joining)


def is_forest(web, places):
    """No ring: each line lowers the number of clubs by one."""
    chosen = [web[1][place] for place in places]
    return len(set(clubs(web[0], chosen))) == web[0] - len(chosen)


def forests(web):
    """All sets of lines without a ring, each with its weight and its clubs."""
    size, lines = web
    found = []
    for many in range(len(lines) + 1):
        for places in combinations(range(len(lines)), many):
            if is_forest(web, places):
                weight = 1
                for place in places:
                    weight *= lines[place][2]
                found.append((places, weight, clubs(size, [lines[place] for place in places])))
    return found


def walk(web, root, mark_of):
    """The lines taken by the host, word by word as it is told: each with the rows [line, one, other, room] before and behind it.

    mark_of tells the mark of the line that is taken, by the rows, the host and that row.
    """
    size, lines = web
    rows = [[line, *told] for line, told in enumerate(lines)]
    host, met, taken = root, {root}, []
    while rows:
        here = [row for row in rows if host in row[1:3]]
        if not here:
            host = min(set(range(size)) - met)
            met.add(host)
            continue
        line, one, other, _ = here[-1]
        end = other if one == host else one
        mark = mark_of(rows, host, here[-1])
        before = rows
        if mark:
            rows = [[row[0], *[host if house == end else house for house in row[1:3]], row[3]]
                    for row in rows if set(row[1:3]) != {host, end}]
            met.add(end)
        else:
            rows = [row for row in rows if row[0] != line]
        taken.append((line, mark, before, rows))
    return taken


def told_paper(web, purses, root):
    """The triples (line, i, mark), with the most reckoned over all splits."""
    size = web[0]
    held = list(purses)
    mosts = []

    def mark_of(rows, host, row):
        _, one, other, room = row
        end = other if one == host else one
        now = (size, tuple(tuple(row[1:]) for row in rows))
        coins = most(standings(now), tuple(held), host, end)
        mosts.append(coins)
        if 1 <= coins <= room:
            held[host] += held[end] - sum(row[3] for row in rows if set(row[1:3]) == {host, end})
            held[end] = 0
            return coins
        held[end if coins == 0 else host] -= room
        return 0

    taken = walk(web, root, mark_of)
    return tuple((line, coins, mark) for (line, mark, _, _), coins in zip(taken, mosts))


def orders(size, many, seed):
    """Several orders of the houses, the ascending and the descending one among them."""
    draw = random.Random(seed)
    found = [tuple(range(size)), tuple(reversed(range(size)))]
    for _ in range(many):
        order = list(range(size))
        draw.shuffle(order)
        found.append(tuple(order))
    return found


def random_web(draw, size, many, room):
    lines = []
    for _ in range(many if size > 1 else 0):
        one, other = sorted(draw.sample(range(size), 2))
        lines.append((one, other, draw.randint(1, room)))
    return (size, tuple(lines))


EDGES = (
    (1, ()),
    (2, ()),
    (4, ()),
    RING,
    ROW,
    TWICE,
    (2, ((0, 1, 1),)),
    (2, ((0, 1, 2), (0, 1, 1), (0, 1, 2))),
    (4, ((0, 1, 1), (2, 3, 2))),
    (5, ((1, 3, 2), (1, 3, 1), (0, 4, 1))),
    (4, ((0, 1, 1), (1, 2, 1), (2, 3, 1), (0, 3, 1))),
    (4, ((0, 1, 1), (0, 2, 1), (0, 3, 1), (1, 2, 1), (1, 3, 1), (2, 3, 1))),
    (4, ((0, 3, 2), (1, 3, 1), (2, 3, 2))),
    (4, ((0, 2, 1), (0, 2, 1), (1, 2, 2), (1, 3, 1))),
)


def small_webs(most_splits, many=30, seed=1):
    """Webs with at most so many splits: the edges, and others of two to five houses."""
    draw = random.Random(seed)
    found = [web for web in EDGES if len(splits(web)) <= most_splits]
    while len(found) < len(EDGES) + many:
        web = random_web(draw, draw.randint(2, 5), draw.randint(1, 6), 3)
        if len(splits(web)) <= most_splits:
            found.append(web)
    return found


def great_web(seed, size=8, many=14, room=HUGE):
    """A web at the limits, that hangs together."""
    draw = random.Random(seed)
    lines = [(draw.randrange(house), house, draw.randint(room // 2, room)) for house in range(1, size)]
    while len(lines) < many:
        one, other = sorted(draw.sample(range(size), 2))
        lines.append((one, other, draw.randint(1, room)))
    draw.shuffle(lines)
    return (size, tuple(lines))


def some_standing(web, seed):
    draw = random.Random(seed)
    split = tuple(draw.randint(0, room) for _, _, room in web[1])
    return split, purses_at(web, split)


def narrow_web(seed, size=40, many=60, room=HUGE):
    """A web of forty houses and sixty lines with at most four houses up to each one linked to later ones."""
    draw = random.Random(seed)
    lines = [(house, house + 1, draw.randint(1, room)) for house in range(size - 1)]
    while len(lines) < many:
        one = draw.randrange(size - 1)
        other = draw.randint(one + 1, min(size - 1, one + 4))
        lines.append((one, other, draw.randint(1, room)))
    draw.shuffle(lines)
    return (size, tuple(lines))
