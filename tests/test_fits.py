"""Asks that fit bends, odd rows, wide webs, layers and witnesses."""

import random
import unittest
from fractions import Fraction
from itertools import combinations, permutations, product

from askreckon import asks_from, fitting_rows, gap, random_bends, random_rows, told
from reckon import (
    HUGE, RING, ROW, TWICE, clubs, great_web, random_web, small_webs, standings,
)
from howeverled.askchanges import asks_back, asks_both, asks_of, line_asks
from howeverled.balances import gap_at
from howeverled.errors import InvalidPaper, NotUsable, NotWide, Unasked
from howeverled.fitpapers import fit_paper, lets_fit
from howeverled.fits import asks_fit
from howeverled.kinds import is_quotient
from howeverled.mosts import most_table
from howeverled.reaches import classes_of
from howeverled.runclasses import Run
from howeverled.slacks import is_standing
from howeverled.webchanges import beside, with_line
from howeverled.webs import bond_of, hangs_together
from howeverled.wides import is_wide, layered, wide_pairs
from howeverled.witnesses import lets_witness, witness_of

ONE = (2, ((0, 1, 1),))
ASKED = ((0, 1, 1, 3), (1, 0, 1, 2))


def fits(asks, bends):
    """By the words of the document."""
    weights = {row[:3]: row[3] for row in asks}
    return all(
        weight * Fraction(*bends[payer]) ** coins == weights.get((payee, payer, coins), 0) * Fraction(*bends[payee]) ** coins
        for payer, payee, coins, weight in asks
    )


def is_odd(web, asks, ask, houses):
    """By the words of the document."""
    weights = {row[:3]: row[3] for row in asks}
    payer, payee, coins = ask
    assert ask in weights and houses[0] == payer and houses[-1] == payee and len(set(houses)) == len(houses)
    product_of = Fraction(1)
    for one, other in zip(houses, houses[1:]):
        assert bond_of(web, one, other) > 0
        product_of *= Fraction(weights[one, other, 1], weights[other, one, 1])
    back = weights.get((payee, payer, coins), 0)
    return back == 0 or Fraction(weights[ask], back) != product_of ** coins


def whole_webs(many, seed):
    return [web for web in small_webs(10 ** 6, many=many, seed=seed) if hangs_together(web)]


def line_rows(draw, web, greatest):
    rows = []
    for one, other in sorted({line[:2] for line in web[1]}):
        rows += [(one, other, 1, draw.randint(1, greatest)), (other, one, 1, draw.randint(1, greatest))]
    return rows


class Fits(unittest.TestCase):
    def test_fits(self):
        draw = random.Random(1)
        seen = set()
        for web in whole_webs(30, 111):
            size = web[0]
            bends = random_bends(draw, size)
            cases = [(), asks_from(random_rows(draw, size, 4)), asks_both(size, asks_from(random_rows(draw, size, 3)))]
            if size > 1:
                cases.append(asks_from(fitting_rows(draw, web, bends)))
            for asks in cases:
                for held in (bends, ((1, 1),) * size):
                    due = fits(asks, held)
                    seen.add(due)
                    self.assertIs(asks_fit(size, asks, held), due)
                    self.assertIs(Run(web, asks).fits(held), due)
                    more = tuple(told(Fraction(*bend) * Fraction(3, 7)) for bend in held)
                    self.assertIs(asks_fit(size, asks, more), due)
                    over = tuple((bottom, top) for top, bottom in held)
                    self.assertIs(asks_fit(size, asks_back(size, asks), over), due)
        self.assertEqual(seen, {True, False})

    def test_edges(self):
        self.assertIs(asks_fit(2, (), ((10 ** 12, 1), (1, 10 ** 12))), True)
        self.assertIs(asks_fit(1, (), ((7, 3),)), True)
        self.assertIs(asks_fit(2, ASKED, ((2, 1), (3, 1))), True)
        self.assertIs(asks_fit(2, ASKED, ((3, 1), (2, 1))), False)
        self.assertIs(asks_fit(2, ((0, 1, 2, 9), (1, 0, 2, 4)), ((2, 1), (3, 1))), True)
        self.assertIs(asks_fit(2, ((0, 1, 1, 1),), ((1, 1), (1, 1))), False)
        self.assertIs(asks_fit(2, ((0, 1, 12, 1), (1, 0, 12, 1)), ((10 ** 12 - 1, 10 ** 12), (1, 1))), False)
        self.assertIs(asks_fit(2, ((0, 1, 12, 1), (1, 0, 12, 1)), ((10 ** 12 - 1, 10 ** 12),) * 2), True)


class Papers(unittest.TestCase):
    def test_papers(self):
        draw = random.Random(2)
        seen = {"fits": 0, "odd": 0}
        for web in whole_webs(50, 112):
            size = web[0]
            bends = random_bends(draw, size)
            lines = line_rows(draw, web, 6)
            cases = [asks_from(lines), line_asks(web, 5), asks_from(lines + random_rows(draw, size, 3))]
            if size > 1:
                cases.append(asks_from(fitting_rows(draw, web, bends)))
                cases.append(asks_from(fitting_rows(draw, web, bends) + [(*draw.sample(range(size), 2), 2, 1)]))
            for asks in cases:
                paper = fit_paper(web, asks)
                seen[paper[0]] += 1
                if paper[0] == "fits":
                    self.assertEqual(len(paper), 2)
                    self.assertTrue(all(is_quotient(bend) for bend in paper[1]))
                    self.assertEqual((paper[1][0], len(paper[1])), ((1, 1), size))
                    self.assertTrue(fits(asks, paper[1]))
                    self.assertEqual(lets_fit(web, asks, paper), paper[1])
                    more = tuple(told(Fraction(*bend) * Fraction(5, 2)) for bend in paper[1])
                    self.assertEqual(lets_fit(web, asks, ("fits", more)), more)
                else:
                    self.assertEqual(len(paper), 3)
                    self.assertTrue(is_odd(web, asks, paper[1], paper[2]))
                    self.assertIsNone(lets_fit(web, asks, paper))
                if size > 1 and asks == cases[3]:
                    self.assertEqual(paper[0], "fits")
                self.judge_rows(web, asks)
        self.assertTrue(min(seen.values()) > 10, seen)

    def judge_rows(self, web, asks):
        """Every ask with every row of houses is judged by the words of the document."""
        for ask in [row[:3] for row in asks][:4]:
            for many in range(2, min(web[0], 4) + 1):
                for houses in list(permutations(range(web[0]), many))[:40]:
                    linked = houses[0] == ask[0] and houses[-1] == ask[1] and all(
                        bond_of(web, one, other) > 0 for one, other in zip(houses, houses[1:]))
                    word = "way" if not linked else None if is_odd(web, asks, ask, houses) else "even"
                    self.judged(web, asks, ("odd", ask, houses), word and (word, -1))

    def judged(self, web, asks, thing, fault):
        if fault is None:
            self.assertIsNone(lets_fit(web, asks, thing))
            return
        with self.assertRaises(InvalidPaper, msg=thing) as caught:
            lets_fit(web, asks, thing)
        self.assertEqual((caught.exception.word, caught.exception.at), fault, thing)

    def test_faults(self):
        asks = asks_of(3, (0, 1, 1, 1), *line_asks(RING, 1))
        for thing, fault in (
            (None, ("shape", -1)), ((), ("shape", -1)), (("fits",), ("shape", -1)), (("odd", (0, 1, 1)), ("shape", -1)),
            (["fits", ((1, 1),) * 3], ("shape", -1)), (("fits", ((1, 1),) * 3, 0), ("shape", -1)), (("Fits", ()), ("shape", -1)),
            (("fits", (0, 1, 1), (0, 2, 1)), ("shape", -1)), ((None, (0, 1, 1), (0, 2, 1)), ("shape", -1)), ("fits", ("shape", -1)),
            (("odd", (0, 1, 1), (0, 2, 1), 0), ("shape", -1)), ((("fits",), ((1, 1),) * 3), ("shape", -1)),
            (("fits", ((1, 1),) * 2), ("bends", -1)), (("fits", ((1, 1), (0, 1), (1, 1))), ("bends", -1)),
            (("fits", ((1, 1), (True, 1), (1, 1))), ("bends", -1)), (("fits", None), ("bends", -1)),
            (("fits", ((1, 1), (2, 2), (1, 1))), ("bends", -1)), (("fits", [(1, 1)] * 3), ("bends", -1)),
            (("fits", ((1, 1),) * 3), ("unlike", 0)), (("fits", ((1, 1), (2, 1), (1, 1))), ("unlike", 3)),
            (("fits", ((1, 1), (2, 1), (2, 1))), ("unlike", 1)),
            (("odd", (0, 1, 2), (0, 2, 1)), ("ask", -1)), (("odd", None, None), ("ask", -1)), (("odd", (0, 1), (0, 1)), ("ask", -1)),
            (("odd", [0, 1, 1], (0, 2, 1)), ("ask", -1)), (("odd", (False, 1, 1), (0, 2, 1)), ("ask", -1)),
            (("odd", (0, True, 1), (0, 2, 1)), ("ask", -1)), (("odd", (0, 1, 1, 2), (0, 2, 1)), ("ask", -1)),
            (("odd", (0, 3, 1), (0, 2, 1)), ("ask", -1)), (("odd", ([], 1, 1), (0, 1)), ("ask", -1)),
            (("odd", (0, 1, 1), ()), ("way", -1)), (("odd", (0, 1, 1), (0,)), ("way", -1)), (("odd", (0, 1, 1), (1, 0)), ("way", -1)),
            (("odd", (0, 1, 1), (0, 2)), ("way", -1)), (("odd", (0, 1, 1), (2, 1)), ("way", -1)), (("odd", (0, 1, 1), None), ("way", -1)),
            (("odd", (0, 1, 1), [0, 1]), ("way", -1)), (("odd", (0, 1, 1), (0, 2, 0, 1)), ("way", -1)),
            (("odd", (0, 1, 1), (0, 2, 1, 1)), ("way", -1)), (("odd", (0, 1, 1), (0, True)), ("way", -1)),
            (("odd", (0, 1, 1), (False, 1)), ("way", -1)), (("odd", (0, 1, 1), (0, 3, 1)), ("way", -1)),
            (("odd", (0, 1, 1), (0, 1)), ("even", -1)), (("odd", (0, 2, 1), (0, 2)), ("even", -1)),
            (("odd", (0, 1, 1), (0, 2, 1)), None), (("odd", (1, 2, 1), (1, 0, 2)), None),
        ):
            self.judged(RING, asks, thing, fault)
        asks = asks_of(3, (0, 2, 1, 1), *line_asks(ROW, 1))
        self.judged(ROW, asks, ("odd", (0, 2, 1), (0, 2)), ("way", -1))
        self.judged(ROW, asks, ("odd", (0, 2, 1), (0, 1, 2)), None)
        asks = asks_of(2, (0, 1, 2, 9), (1, 0, 2, 4), *ASKED)
        self.judged(ONE, asks, ("odd", (0, 1, 2), (0, 1)), ("even", -1))
        asks = asks_of(2, (0, 1, 2, 3), (1, 0, 2, 2), *ASKED)
        self.judged(ONE, asks, ("odd", (0, 1, 2), (0, 1)), None)
        self.judged(ONE, asks, ("fits", ((2, 1), (3, 1))), ("unlike", 1))

    def test_sequence_of_errors(self):
        """The web, the asks, a line that is not asked, and only then the paper."""
        apart = (3, ((0, 1, 1),))
        for function in (fit_paper, lambda web, asks: lets_fit(web, asks, None)):
            for asks in (None, (), ASKED):
                with self.assertRaises(NotUsable) as caught:
                    function(apart, asks)
                self.assertEqual((caught.exception.word, caught.exception.at), ("web", -1))
            with self.assertRaises(NotUsable) as caught:
                function(ROW, None)
            self.assertEqual((caught.exception.word, caught.exception.at), ("asks", -1))
            for web, asks, line in (
                (ROW, (), 0), (ROW, ASKED, 1), (ROW, ASKED[:1], 0), (ROW, ASKED[1:], 0), (TWICE, (), 0),
                (RING, (*ASKED, (1, 2, 1, 1), (2, 1, 1, 1)), 1), (ROW, ((0, 1, 1, 1), (1, 0, 1, 1), (1, 2, 1, 1), (2, 1, 2, 1)), 1),
            ):
                with self.assertRaises(Unasked) as caught:
                    function(web, asks)
                self.assertEqual(caught.exception.line, line)

    def test_edges(self):
        self.assertEqual(fit_paper((1, ()), ()), ("fits", ((1, 1),)))
        self.assertEqual(lets_fit((1, ()), (), ("fits", ((10 ** 12, 7),))), ((10 ** 12, 7),))
        asks = ((0, 1, 1, 10 ** 6), (1, 0, 1, 1), (1, 2, 1, 10 ** 6), (2, 1, 1, 1))
        self.assertEqual(fit_paper(ROW, asks), ("fits", ((1, 1), (10 ** 6, 1), (10 ** 12, 1))))
        row = (8, tuple((house, house + 1, HUGE) for house in range(7)))
        asks = asks_from([(one, other, 1, 999983) for one, other, _ in row[1]] + [(other, one, 1, 2) for one, other, _ in row[1]])
        word, bends = fit_paper(row, asks)
        self.assertEqual((word, bends[7]), ("fits", (999983 ** 7, 2 ** 7)))
        self.assertEqual(lets_fit(row, asks, (word, bends)), bends)


def are_layers(web, coins, lots):
    """By the words of the document."""
    wide = [pair for pair in combinations(range(web[0]), 2) if bond_of(web, *pair) >= 2 * coins]
    for lot in lots:
        joined = clubs(web[0], [(*pair, 1) for pair in wide if set(pair) <= set(lot)])
        if len({joined[house] for house in lot}) != 1:
            return False
    return all(
        any((one in lot and two in other) or (two in lot and one in other) for one, two in wide)
        for lot, other in zip(lots, lots[1:])
    )


def all_layers(size):
    """All tuples of one to three lots that have each house once."""
    found = set()
    for levels in product(range(3), repeat=size):
        used = sorted(set(levels))
        for order in permutations(used):
            found.add(tuple(tuple(house for house in range(size) if levels[house] == level) for level in order))
    return sorted(found)


def wide_webs(seed, many):
    draw = random.Random(seed)
    found = [(1, ()), (2, ((0, 1, 4),)), (3, ((0, 1, 2), (0, 1, 2), (1, 2, 5))), (3, ((0, 1, 4), (0, 2, 4), (1, 2, 4)))]
    while len(found) < many:
        web = random_web(draw, draw.randint(2, 4), draw.randint(1, 6), 6)
        if is_wide(web, 1):
            found.append(web)
    return found


class Wides(unittest.TestCase):
    def test_pairs(self):
        draw = random.Random(3)
        for web in small_webs(10 ** 6, many=30, seed=113):
            for coins in (1, 2, 3, HUGE):
                told_pairs = tuple(pair for pair in combinations(range(web[0]), 2) if bond_of(web, *pair) >= 2 * coins)
                self.assertEqual(wide_pairs(web, coins), told_pairs)
                whole = set(clubs(web[0], [(*pair, 1) for pair in told_pairs])) == {0}
                self.assertIs(is_wide(web, coins), whole)
        self.assertEqual((is_wide((1, ()), HUGE), wide_pairs((1, ()), 1)), (True, ()))
        web = (2, ((0, 1, 11), (0, 1, 13)))
        self.assertEqual((is_wide(web, 12), is_wide(web, 13), wide_pairs(web, 12)), (True, False, ((0, 1),)))
        self.assertEqual((is_wide((2, ((0, 1, 23),)), 12), is_wide((2, ((0, 1, 24),)), 12)), (False, True))

    def judge_layers(self, web, coins, lots, upward):
        purses = layered(web, coins, lots, upward)
        self.assertIs(is_standing(web, purses), True)
        level = {house: place for place, lot in enumerate(lots) for house in lot}
        table = most_table(web, purses)
        for one, other in product(range(web[0]), repeat=2):
            if one != other and level[one] > level[other]:
                self.assertEqual(table[one][other], upward)
            elif one != other:
                self.assertGreaterEqual(table[one][other], coins)

    def test_layers(self):
        for web in wide_webs(114, 25):
            for coins in (1, 2, 3):
                for lots in all_layers(web[0]):
                    if not is_wide(web, coins):
                        with self.assertRaises(NotWide) as caught:
                            layered(web, coins, lots, 0)
                        self.assertEqual(caught.exception.coins, coins)
                    elif not are_layers(web, coins, lots):
                        with self.assertRaises(NotUsable) as caught:
                            layered(web, coins, lots, coins)
                        self.assertEqual((caught.exception.word, caught.exception.at), ("lots", -1))
                    else:
                        for upward in range(coins):
                            self.judge_layers(web, coins, lots, upward)

    def test_great_webs(self):
        web = great_web(3)
        coins = 10 ** 28
        self.assertIs(is_wide(web, coins), True)
        lots = [one for one in ((tuple(range(8)),), ((3,), tuple(house for house in range(8) if house != 3)))
                if are_layers(web, coins, one)]
        for one in lots:
            self.judge_layers(web, coins, one, coins - 1)
        row = (8, tuple((house, house + 1, HUGE) for house in range(7)))
        for one in (((0, 1, 2), (3, 4), (5, 6, 7)), ((6, 7), (5,), (0, 1, 2, 3, 4)), ((0,), (1, 2, 3, 4, 5, 6, 7))):
            self.judge_layers(row, HUGE // 2, one, HUGE // 2 - 1)

    def test_sequence_of_errors(self):
        for coins in (0, None, True, -1):
            with self.assertRaises(NotUsable) as caught:
                layered(ROW, coins, None, None)
            self.assertEqual((caught.exception.word, caught.exception.at), ("coins", -1))
        with self.assertRaises(NotWide) as caught:
            layered(ROW, 2, None, None)
        self.assertEqual(caught.exception.coins, 2)
        row = (4, ((0, 1, 2), (1, 2, 2), (2, 3, 2)))
        with self.assertRaises(NotUsable) as caught:
            layered(row, 1, ((0,), (1,), (2,), (3,)), 0)
        self.assertEqual((caught.exception.word, caught.exception.at), ("lots", -1))
        for lots, word in ((None, "lots"), (((0, 2), (1,)), "lots"), (((0, 1, 2),), "upward")):
            with self.assertRaises(NotUsable) as caught:
                layered(ROW, 1, lots, 1)
            self.assertEqual((caught.exception.word, caught.exception.at), (word, -1))


class Witnesses(unittest.TestCase):
    def judge(self, web, asks, bends):
        coins = max([row[2] for row in asks], default=0)
        if asks and not is_wide(web, coins):
            with self.assertRaises(NotWide) as caught:
                witness_of(web, asks, bends)
            self.assertEqual(caught.exception.coins, coins)
            return "narrow"
        purses = witness_of(web, asks, bends)
        if fits(asks, bends):
            self.assertIsNone(purses)
            return "fits"
        self.assertIs(is_standing(web, purses), True)
        self.assertLessEqual(len(set(classes_of(web, purses, coins))), 3)
        self.assertNotEqual(gap_at(web, asks, bends, purses), (0, 1))
        self.assertEqual(lets_witness(web, asks, bends, purses), gap_at(web, asks, bends, purses))
        return "odd"

    def test_witnesses(self):
        draw = random.Random(4)
        seen = {"narrow": 0, "fits": 0, "odd": 0}
        for web in wide_webs(115, 40):
            size = web[0]
            bends = random_bends(draw, size)
            cases = [(), asks_from(random_rows(draw, size, 1, 2)), asks_from(random_rows(draw, size, 4, 3)),
                     asks_from(line_rows(draw, web, 3))]
            if size > 1:
                fitting = fitting_rows(draw, web, bends)
                cases += [asks_from(fitting), asks_from(fitting + [(*draw.sample(range(size), 2), 1, 1)])]
            for asks in cases:
                seen[self.judge(web, asks, bends)] += 1
                self.judge(web, asks, ((1, 1),) * size)
        self.assertTrue(min(seen.values()) > 5, seen)

    def test_hidden(self):
        """Asks that go round tell nothing where all can be paid, nor where one lot pays the rest."""
        for size in range(3, 7):
            lines = tuple((one, other, 30) for one, other in combinations(range(size), 2)) if size < 6 else tuple(
                (house, house + 1, 30) for house in range(size - 1)) + ((0, size - 1, 30),)
            web = (size, lines)
            for coins in (1, 5, 12):
                rows = [(house, (house + 1) % size, coins, 2) for house in range(size)]
                rows += [((house + 1) % size, house, coins, 1) for house in range(size)]
                asks = asks_from(rows)
                self.assertEqual(self.judge(web, asks, ((1, 1),) * size), "odd")
                asks = asks_from(rows + [(one, other, 1, 1) for one, other in permutations(range(size), 2)][:6])
                self.judge(web, asks, ((1, 1),) * size)

    def test_sums_of_nothing(self):
        """What all that can be paid adds to the gap is often nothing in all."""
        self.assertEqual(self.judge((2, ((0, 1, 4),)), ((0, 1, 1, 1), (1, 0, 2, 1)), ((1, 1),) * 2), "odd")
        for web in ((3, ((0, 1, 4), (1, 2, 4))), (3, ((0, 1, 4), (0, 2, 4), (1, 2, 4)))):
            self.assertEqual(self.judge(web, ((0, 1, 1, 6), (1, 2, 2, 1)), ((1, 1), (2, 1), (1, 1))), "odd")
        draw = random.Random(8)
        for size in (2, 3, 4):
            for web in ((size, tuple((one, other, 6) for one, other in combinations(range(size), 2))),
                        (size, tuple((house, house + 1, 6) for house in range(size - 1)))):
                for _ in range(60):
                    rows = {(*draw.sample(range(size), 2), draw.randint(1, 3), 1) for _ in range(draw.randint(1, 8))}
                    self.judge(web, asks_from(rows), ((1, 1),) * size)

    def test_great_webs(self):
        draw = random.Random(5)
        for seed in range(4):
            web = great_web(seed)
            bends = tuple(told(Fraction(draw.randint(1, 10 ** 12), draw.randint(1, 10 ** 12))) for _ in range(8))
            asks = asks_from(random_rows(draw, 8, 24, 12))
            self.assertEqual(self.judge(web, asks, bends), "odd")
            self.assertEqual(self.judge(web, line_asks(web, 3), ((2, 5),) * 8), "fits")

    def test_returned_webs(self):
        """Sixteen houses: an ask between two of them that is hidden behind its own return way."""
        web = with_line(with_line(beside(great_web(1), great_web(2)), 0, 8, HUGE), 7, 15, HUGE)
        draw = random.Random(6)
        for _ in range(2):
            houses = draw.sample(range(16), 3)
            rows = [(houses[place], houses[(place + 1) % 3], 12, 2) for place in range(3)]
            rows += [(houses[(place + 1) % 3], houses[place], 12, 1) for place in range(3)]
            self.assertEqual(self.judge(web, asks_from(rows), ((1, 1),) * 16), "odd")

    def test_faults(self):
        even = ((1, 1), (1, 1))
        self.assertEqual(lets_witness(TWICE, ASKED, even, (0, 3)), (-1, 1))
        for thing in (None, (), (3,), (3, 1), (4, -1), [3, 0], (True, 2), (3, 0, 0), (3, False)):
            self.judged(TWICE, ASKED, even, thing, "standing")
        self.judged(TWICE, ASKED, even, (2, 1), "gap")
        self.judged(TWICE, asks_both(2, ASKED), even, (2, 1), "gap")
        self.judged(TWICE, (), even, (2, 1), "gap")
        self.judged((4, ()), (), ((1, 1),) * 4, (0, 0, 0, 0), "gap")
        asks = ((0, 1, 1, 1),)
        self.judged((4, ()), asks, ((1, 1),) * 4, (0, 0, 0, 0), "classes")
        self.judged((3, ()), asks, ((1, 1),) * 3, (0, 0, 0), "gap")
        four = (4, ((0, 1, 2), (1, 2, 2), (2, 3, 2)))
        self.judged(four, asks, ((1, 1),) * 4, (2, 2, 2, 0), "classes")
        self.judged(four, asks, ((1, 1),) * 4, (1, 3, 2, 0), "gap")
        self.judged(four, asks, ((1, 1),) * 4, (2, 2, 1, 1), None)
        self.judged(four, ((0, 1, 1, 1), (0, 1, 2, 1)), ((1, 1),) * 4, (1, 2, 2, 1), "classes")
        self.judged(four, None, None, None, "asks")
        self.judged(four, (), None, None, "bends")

    def judged(self, web, asks, bends, thing, word):
        if word is None:
            due = gap_at(web, asks, bends, thing)
            self.assertNotEqual(due, (0, 1))
            self.assertEqual(lets_witness(web, asks, bends, thing), due)
            return
        with self.assertRaises((InvalidPaper, NotUsable), msg=(web, asks, thing)) as caught:
            lets_witness(web, asks, bends, thing)
        self.assertEqual((caught.exception.word, caught.exception.at), (word, -1), (web, asks, thing))
        self.assertIs(type(caught.exception), NotUsable if word in ("asks", "bends") else InvalidPaper)

    def test_sequence_of_errors(self):
        for asks, bends, word in ((None, None, "asks"), (ASKED, None, "bends"), ((), None, "bends")):
            with self.assertRaises(NotUsable) as caught:
                witness_of((3, ()), asks, bends)
            self.assertEqual((caught.exception.word, caught.exception.at), (word, -1))
        with self.assertRaises(NotWide) as caught:
            witness_of(ONE, ASKED, ((1, 1), (3, 2)))
        self.assertEqual(caught.exception.coins, 1)
        self.assertIsNone(witness_of(ONE, (), ((1, 1), (3, 2))))
        self.assertIsNone(witness_of((3, ()), (), ((1, 1),) * 3))


class Gaps(unittest.TestCase):
    def test_lasting_at_all_standings(self):
        """On a wide web the gap is nought everywhere just if the asks fit."""
        draw = random.Random(7)
        for web in wide_webs(116, 15):
            known = standings(web)
            for asks in (asks_from(random_rows(draw, web[0], 3, 1)), asks_from(line_rows(draw, web, 2))):
                bends = random_bends(draw, web[0], 2)
                if len(known) <= 400:
                    gaps = [gap(known, asks, bends, purses) for purses in known]
                    self.assertIs(not any(gaps), fits(asks, bends))


if __name__ == "__main__":
    unittest.main()
