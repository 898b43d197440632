"""Houses that all ways pass, bridges, and where one more line helps most."""

import random
import unittest
from fractions import Fraction
from itertools import combinations, permutations

from naming import Naming
from piecereckon import share, told
from reckon import HUGE, RING, ROW, TWICE, great_web, random_web, small_webs, splits, standings, ways
from howeverled.bestlines import best_line, gain_table, loss_table, pair_sum
from howeverled.bridges import bridged, bridged_chance, shared
from howeverled.crossings import chance_by_row, chance_of_pair, chance_row, cut_houses
from howeverled.openforms import share_form
from howeverled.planclasses import Plan
from howeverled.pourwebs import row_web, star_web

WEBS = small_webs(120, many=30, seed=81)
TREES = ((7, ((0, 1, 1), (1, 2, 3), (2, 3, 1), (1, 4, 2), (4, 5, 1))), (5, ((0, 1, 1), (1, 2, 1), (0, 2, 1), (2, 3, 2), (3, 4, 2), (2, 4, 1))),
         (6, ((0, 1, 1), (1, 2, 1), (2, 3, 1), (0, 3, 1), (3, 4, 1), (4, 5, 1))), (3, ((0, 2, 1), (0, 2, 2), (0, 1, 1))))


def together(size, lines, houses):
    """How many clubs the houses make by the lines between them."""
    left, clubs = set(houses), 0
    while left:
        clubs += 1
        queue = [left.pop()]
        while queue:
            house = queue.pop()
            for one, other, _ in lines:
                for end in {one, other} & left if house in (one, other) else ():
                    left.discard(end)
                    queue.append(end)
    return clubs


def cut_by_hand(web):
    """By taking each house out."""
    size, lines = web
    found = []
    for house in range(size):
        rest = [line for line in lines if house not in line[:2]]
        before = together(size, lines, range(size))
        after = together(size, rest, [one for one in range(size) if one != house])
        touched = any(house in line[:2] for line in lines)
        # A house without lines is a club by itself, which goes with it.
        if after > before - (0 if touched else 1):
            found.append(house)
    return tuple(found)


def passed_by_all(web, payer, payee):
    """The houses on all ways, in the sequence of each of them."""
    rows = []
    for way in ways(web, payer, payee):
        houses = [payer]
        for line in way:
            one, other, _ = web[1][line]
            houses.append(other if houses[-1] == one else one)
        rows.append(houses)
    if not rows:
        return ()
    found = {tuple(house for house in row if all(house in other for other in rows)) for row in rows}
    assert len(found) == 1, (web, payer, payee)
    return found.pop()


class Crossings(Naming, unittest.TestCase):
    def test_cut_houses(self):
        for web in (*WEBS, *TREES, (1, ()), (8, ())):
            self.assertEqual(cut_houses(web), cut_by_hand(web), web)
        self.assertEqual(cut_houses(row_web((1, 2, 3, 0, 1))), (1, 2))
        self.assertEqual(cut_houses(star_web((1, 1))), (0,))

    def test_houses_of_several_clubs(self):
        """Two rings that share a house: that house alone is of both."""
        web = (6, ((0, 1, 1), (1, 2, 1), (0, 2, 1), (2, 3, 1), (3, 4, 1), (2, 4, 1)))
        self.assertEqual(cut_houses(web), (2,))
        self.assertEqual((chance_row(web, 0, 4), chance_row(web, 0, 1), chance_row(web, 0, 5)), ((0, 2, 4), (0, 1), ()))

    def test_chances(self):
        for web in (*WEBS, *TREES):
            if len(splits(web)) > 150:
                continue
            for payer, payee in permutations(range(web[0]), 2):
                right = told(1 - share(web, payer, payee, 1))
                self.assertEqual(chance_of_pair(web, payer, payee), right)
                self.assertEqual(chance_by_row(web, payer, payee), right)

    def test_rows(self):
        for web in (*WEBS, *TREES):
            for payer, payee in permutations(range(web[0]), 2):
                row = chance_row(web, payer, payee)
                self.assertEqual(row, passed_by_all(web, payer, payee))
                self.assertEqual(row, tuple(reversed(chance_row(web, payee, payer))))
                if row == ():
                    self.assertEqual((chance_of_pair(web, payer, payee), chance_by_row(web, payer, payee)), ((0, 1), (0, 1)))

    def test_great(self):
        one, other = great_web(82), great_web(83)
        web = shared(one, 3, other, 6)
        self.assertIn(3, cut_houses(web))
        for payer, payee in ((0, 14), (14, 0), (3, 9), (1, 7)):
            self.assertEqual(chance_by_row(web, payer, payee), chance_of_pair(web, payer, payee))

    def test_wrong(self):
        for function in (chance_of_pair, chance_row, chance_by_row):
            for arguments, word in (((ROW, 3, 0), "payer"), ((ROW, True, None), "payer"), ((ROW, None, 0), "payer"),
                                    ((ROW, -1, -1), "payer"), ((ROW, 0, 0), "payee"), ((ROW, 1, True), "payee"),
                                    ((ROW, 0, "1"), "payee"), ((ROW, 0, 3), "payee"), (((1, ()), 0, 0), "payee")):
                self.named(word, function, *arguments)


def bridged_by_hand(web, here, other, there, room):
    size, lines = web
    more, rows = other
    found = [*lines]
    for one, two, told_room in rows:
        found.append((one + size, two + size, told_room))
    if room:
        found.append((here, there + size, room))
    return (size + more, tuple(found))


def shared_by_hand(web, here, other, there):
    size, lines = web
    more, rows = other
    number = {there: here}
    for house in range(more):
        if house != there:
            number[house] = size + len(number) - 1
    found = [*lines]
    for one, two, room in rows:
        found.append((min(number[one], number[two]), max(number[one], number[two]), room))
    return (size + more - 1, tuple(found)), number


def chance_or_one(web, one, other):
    return Fraction(1) if one == other else 1 - share(web, one, other, 1)


class Bridges(Naming, unittest.TestCase):
    def drawn(self, seed, many, most_splits):
        draw = random.Random(seed)
        while many:
            web, other = draw.choice(WEBS), draw.choice(WEBS)
            if len(splits(web)) * len(splits(other)) <= most_splits:
                many -= 1
                yield draw, web, draw.randrange(web[0]), other, draw.randrange(other[0])

    def test_line_by_line(self):
        for draw, web, here, other, there in self.drawn(84, 150, 10 ** 9):
            for room in (0, 1, 5, HUGE):
                self.assertEqual(bridged(web, here, other, there, room), bridged_by_hand(web, here, other, there, room))
            self.assertEqual(shared(web, here, other, there), shared_by_hand(web, here, other, there)[0])

    def test_chances_in_the_whole(self):
        for draw, web, here, other, there in self.drawn(85, 40, 120):
            room = draw.choice([0, 1, 2, 3])
            whole = bridged_by_hand(web, here, other, there, room)
            joined, number = shared_by_hand(web, here, other, there)
            for payer in range(web[0]):
                for payee in range(other[0]):
                    parts = chance_or_one(web, payer, here) * chance_or_one(other, there, payee)
                    right = 1 - share(whole, payer, web[0] + payee, 1)
                    self.assertEqual(right, parts * Fraction(room, room + 1))
                    self.assertEqual(bridged_chance(web, here, other, there, room, payer, payee), told(right))
                    if payer != number[payee]:
                        self.assertEqual(1 - share(joined, payer, number[payee], 1), parts)

    def test_same_houses(self):
        """Payer and here, there and payee may be the same: then only the bridge is between them."""
        self.assertEqual(bridged_chance(ROW, 1, RING, 2, 3, 1, 2), (3, 4))
        self.assertEqual(bridged_chance((1, ()), 0, (1, ()), 0, 1, 0, 0), (1, 2))
        self.assertEqual(bridged_chance((1, ()), 0, (1, ()), 0, 0, 0, 0), (0, 1))
        self.assertEqual(bridged_chance(TWICE, 0, ROW, 0, HUGE, 0, 0), (HUGE, HUGE + 1))
        self.assertEqual((shared((1, ()), 0, ROW, 2), bridged((1, ()), 0, (1, ()), 0, 4)), (ROW[:1] + (((1, 2, 2), (0, 2, 3)),), (2, ((0, 1, 4),))))

    def test_wrong(self):
        right = {"web": ROW, "here": 2, "other": TWICE, "there": 1, "room": 3, "payer": 0, "payee": 0}
        wrongs = {
            "here": (None, 3, -1, True, "0", (0,)),
            "other": (None, (), 3, (0, ()), [2, ()], (True, ()), (2, ((1, 0, 1),)), (2, [])),
            "there": (None, 2, -1, True, "0"), "room": (None, -1, True, "1", (1,)), "payer": (None, 3, -1, False, [0]),
            "payee": (None, 2, -1, False, "1"),
        }
        words = list(wrongs)
        for function, many in ((shared, 4), (bridged, 5), (bridged_chance, 7)):
            given = dict(list(right.items())[:many])
            self.assertEqual(function(**given), function(*given.values()))
            for place, word in enumerate(words[:many - 1]):
                for wrong in wrongs[word]:
                    for later in (None, *words[place + 1:many - 1]):
                        arguments = {**given, word: wrong, **({later: None} if later else {})}
                        self.named(word, function, **arguments)


def sum_by_counting(web):
    known = standings(web)
    total = Fraction(0)
    for one, other in combinations(range(web[0]), 2):
        paid = 0
        for purses in known:
            after = list(purses)
            after[one] -= 1
            after[other] += 1
            paid += tuple(after) in known
        total += Fraction(paid, len(known))
    return total


def with_new_line(web, here, there, room):
    return (web[0], (*web[1], (here, there, room))) if room else web


class BestLines(Naming, unittest.TestCase):
    def test_by_counting(self):
        for web in WEBS:
            if len(splits(web)) > 40:
                continue
            self.assertEqual(pair_sum(web), told(sum_by_counting(web)))
            losses = [(web[0], web[1][:line] + web[1][line + 1:]) for line in range(len(web[1]))]
            self.assertEqual(loss_table(web), tuple(told(sum_by_counting(one)) for one in losses))
            for room in (0, 1, 2):
                sums = {pair: sum_by_counting(with_new_line(web, *pair, room)) for pair in combinations(range(web[0]), 2)}
                self.assertEqual(gain_table(web, room), tuple((*pair, told(one)) for pair, one in sums.items()))
                if sums:
                    best = max(sums.values())
                    self.assertEqual(best_line(web, room), [pair for pair, one in sums.items() if one == best][0])

    def test_of_great_webs(self):
        for web in (great_web(86), row_web((1, 0, 5, HUGE, 2, 2, 1, 3)), star_web((0, 4, 1, HUGE, 2, 2, 7, 3))):
            for room in (0, 1, HUGE):
                table = gain_table(web, room)
                self.assertEqual([row[:2] for row in table], list(combinations(range(web[0]), 2)))
                for here, there, told_sum in table[::7]:
                    self.assertEqual(told_sum, pair_sum(with_new_line(web, here, there, room)))
                best = max(Fraction(*row[2]) for row in table)
                self.assertEqual(best_line(web, room), [row[:2] for row in table if Fraction(*row[2]) == best][0])
            self.assertEqual(loss_table(web), tuple(pair_sum((web[0], web[1][:at] + web[1][at + 1:])) for at in range(len(web[1]))))

    def test_first_of_the_best(self):
        self.assertEqual((best_line(RING, 1), best_line(ROW, 0), best_line((4, ()), 3), best_line((2, ()), 0)),
                         ((0, 1), (0, 1), (0, 1), (0, 1)))

    def test_one_house(self):
        self.assertEqual((pair_sum((1, ())), gain_table((1, ()), 5), loss_table((1, ()))), ((0, 1), (), ()))
        for room in (0, 3, None, True, -1):
            self.named("web", best_line, (1, ()), room)

    def test_wrong(self):
        for room in (None, -1, True, "1", (1,), [], False):
            for function in (gain_table, best_line):
                self.named("room", function, ROW, room)


class Plans(Naming, unittest.TestCase):
    def test_as_the_functions(self):
        draw = random.Random(87)
        for _ in range(40):
            web = random_web(draw, draw.randint(2, 6), draw.randint(0, 7), 9)
            plan = Plan(web)
            pairs = list(permutations(range(web[0]), 2))
            here, there = draw.choice(pairs)
            payer, payee = draw.choice(pairs)
            self.assertEqual(plan.form(here, there, payer, payee), share_form(web, here, there, payer, payee))
            self.assertEqual((plan.best(2), plan.total_chance()), (best_line(web, 2), pair_sum(web)))
            more = plan.with_new(here, there, 4)
            self.assertIsInstance(more, Plan)
            self.assertEqual(more, Plan(with_new_line(web, min(here, there), max(here, there), 4)))
            self.assertEqual(plan.with_new(here, there, 0), plan)
            self.assertNotEqual(more, plan)
            self.assertEqual(plan, Plan(web))

    def test_same(self):
        for other in (Plan(RING), ROW, None, "plan", (ROW,), 3):
            self.assertFalse(Plan(ROW) == other)
            self.assertTrue(Plan(ROW) != other)

    def test_wrong(self):
        for web in (None, 3, (), (3,), [3, ()], (0, ()), (True, ()), (3, []), (2, ((1, 0, 1),)), Plan(ROW)):
            self.named("web", Plan, web)
        plan = Plan(ROW)
        self.named("web", Plan((1, ())).best, None)
        for room in (None, -1, True, "1"):
            self.named("room", plan.best, room)
            self.named("room", plan.with_new, 0, 1, room)
        for place, word in enumerate(("here", "there", "payer", "payee")):
            for wrong in (None, 3, -1, True, "0"):
                arguments = [0, 1, 0, 2]
                arguments[place] = wrong
                self.named(word, plan.form, *arguments)
                if place < 2:
                    self.named(word, plan.with_new, *arguments[:2], None)
        self.named("there", plan.form, 0, 0, 1, 1)
        self.named("payee", plan.form, 0, 1, 1, 1)


if __name__ == "__main__":
    unittest.main()
