"""A plain book of a live exchange, kept by all splits and all rings, and events drawn for it."""

from reckon import bar, moved, purses_at, rings, standings

FORMS = ("house", "line", "widen", "narrow", "close", "pay", "turn", "rule", "day")
RULES = ("short", "wide", "ones")


def number(thing):
    return type(thing) is int and thing >= 0


def right_event(thing):
    """True for an event, form by form."""
    if type(thing) is not tuple or not thing or type(thing[0]) is not str:
        return False
    word, rest = thing[0], thing[1:]
    if word in ("house", "day"):
        return rest == ()
    if word == "rule":
        return len(rest) == 1 and type(rest[0]) is str and rest[0] in RULES
    if word == "turn":
        return (len(rest) == 3 and number(rest[0]) and type(rest[1]) is tuple and len(rest[1]) >= 2
                and all(number(line) for line in rest[1]) and number(rest[2]) and rest[2] > 0)
    if not all(number(one) for one in rest):
        return False
    if word == "line":
        return len(rest) == 4 and rest[0] != rest[1] and rest[2] + rest[3] > 0
    if word in ("widen", "narrow"):
        return len(rest) == 3 and rest[1] + rest[2] > 0
    if word == "close":
        return len(rest) == 2
    return word == "pay" and len(rest) == 3 and rest[0] != rest[1] and rest[2] > 0


class Book:
    """What a live exchange has to tell."""

    def __init__(self, size, rule):
        self.begin = (size, rule)
        self.web = (size, ())
        self.purses = (0,) * size
        self.rule = rule
        self.log = []
        self.tallies = [[0, 0, 0] for _ in range(size)]
        self.refused = []
        self.paid = []

    def copy(self):
        other = Book(*self.begin)
        other.rule = self.rule
        other.web, other.purses, other.log = self.web, self.purses, list(self.log)
        other.tallies = [list(row) for row in self.tallies]
        other.refused, other.paid = list(self.refused), list(self.paid)
        return other

    def told(self):
        return (self.web, self.purses, self.rule, tuple(self.log), tuple(map(tuple, self.tallies)), tuple(self.refused))

    def reason(self, event):
        size, lines = self.web
        if not right_event(event):
            return "shape"
        word = event[0]
        houses = {"line": event[1:3], "pay": event[1:3], "turn": event[1:2]}.get(word, ())
        if any(house >= size for house in houses):
            return "house"
        if word in ("widen", "narrow", "close") and event[1] >= len(lines):
            return "line"
        if word == "turn" and event[2] not in rings(self.web, event[1]):
            return "ring"
        if word == "narrow" and event[2] + event[3] >= lines[event[1]][2]:
            return "room"
        if word in ("narrow", "close"):
            nears = [split[event[1]] for split in standings(self.web)[self.purses]]
            most = event[2] if word == "close" else lines[event[1]][2] - event[3]
            if not any(event[2] <= near <= most for near in nears):
                return "held"
        return None

    def laid(self, *changes):
        purses = list(self.purses)
        for house, coins in changes:
            purses[house] += coins
        self.purses = tuple(purses)

    def put(self, line, *rows):
        size, lines = self.web
        self.web = (size, lines[:line] + rows + lines[line + 1:])

    def do(self, event):
        """What go has to return, for an event that is let."""
        word, place = event[0], len(self.log)
        self.log.append(event)
        if word == "house":
            self.web = (self.web[0] + 1, self.web[1])
            self.purses = (*self.purses, 0)
            self.tallies.append([0, 0, 0])
        elif word == "line":
            _, one, other, near, far = event
            self.web = (self.web[0], (*self.web[1], (min(one, other), max(one, other), near + far)))
            self.laid((one, near), (other, far))
        elif word in ("widen", "narrow"):
            _, line, near, far = event
            one, other, room = self.web[1][line]
            sign = 1 if word == "widen" else -1
            self.put(line, (one, other, room + sign * (near + far)))
            self.laid((one, sign * near), (other, sign * far))
        elif word == "close":
            _, line, near = event
            one, other, room = self.web[1][line]
            self.put(line)
            self.laid((one, -near), (other, near - room))
        elif word == "rule":
            self.rule = event[1]
        elif word == "pay":
            return self.pay(place, *event[1:])
        return None

    def pay(self, place, payer, payee, coins):
        after = moved(self.purses, payer, payee, coins)
        if after not in standings(self.web):
            self.tallies[payer][2] += 1
            self.refused.append((place, bar(self.web, self.purses, payer, payee)))
            return False
        self.tallies[payer][0] += coins
        self.tallies[payee][1] += coins
        self.paid.append((place, self.web, self.purses, (payer, payee, coins), self.rule))
        self.purses = after
        return True

    def judge_leadings(self, case, leadings):
        """Each is one by its rule, on the web then, from a split with the purses then."""
        from howeverled.ledchecker import follows_rule
        case.assertEqual(len(leadings), len(self.paid))
        for (place, split, leading, rule), (at, web, purses, payment, due) in zip(leadings, self.paid):
            case.assertEqual((place, rule), (at, due))
            case.assertEqual(purses_at(web, split), purses)
            case.assertIs(follows_rule(web, split, *payment, rule, leading), True)


def drawn_event(draw, web, most_lines=5, most_room=3):
    """An event that is mostly one, and mostly let."""
    size, lines = web
    words = ["pay"] * 6 + ["turn"] * 3 + ["narrow"] * 3 + ["widen", "close", "rule", "day", "house"]
    word = draw.choice(words if len(lines) >= size else words + ["line"] * 6)
    if word == "house" and size >= 5 or word == "line" and len(lines) >= most_lines:
        word = "pay"
    line = draw.randrange(len(lines)) if lines and draw.random() < 0.95 else len(lines)
    room = lines[line][2] if line < len(lines) else 1
    if word == "line":
        near = draw.randint(0, most_room)
        return (word, *drawn_pair(draw, size), near, draw.randint(0 if near else 1, most_room - near + (0 if near else 1)))
    if word == "widen":
        return (word, line, *draw.choice([(1, 0), (0, 1)])) if room < most_room else ("day",)
    if word == "narrow":
        return (word, line, *draw.choice([(1, 0), (0, 1), (1, 0), (0, 1), (2, 0), (1, 1), (0, 0)]))
    if word == "close":
        return (word, line, draw.randint(0, room))
    if word == "pay":
        return (word, *drawn_pair(draw, size), draw.choice([1, 1, 1, 1, 2, 2, 3, 0]))
    if word == "turn":
        start = draw.randrange(size)
        known = rings(web, start)
        if not known or draw.random() < 0.1:
            return (word, start, tuple(draw.randrange(6) for _ in range(draw.randint(1, 3))), 1)
        return (word, start, draw.choice(known), draw.randint(1, 3))
    return (word, draw.choice(RULES)) if word == "rule" else (word,)


def drawn_pair(draw, size):
    """Two houses, mostly unlike ones of the web."""
    if size > 1 and draw.random() < 0.93:
        return draw.sample(range(size), 2)
    return [draw.randrange(size + 1), draw.randrange(size + 1)]
