"""Slacks, shut and short lots, standings."""

import random
import unittest
from itertools import product

from reckon import (
    HUGE, RING, ROW, great_web, innermost, least_slack, lots, purses_at, slack, small_webs, some_standing,
    standings, within,
)
from howeverled.slacks import is_standing, short_lot, shut_lots, slack_of
from howeverled.standings import some_split
from howeverled.webchanges import beside, with_line
from howeverled.webs import rooms_of

WEBS = small_webs(80)


def near_purses(web, purses):
    """Purses about these, some below 0, with the same sum or not."""
    size = web[0]
    draw = random.Random(repr((web, purses)))
    for _ in range(12):
        told = list(purses)
        for _ in range(draw.randint(1, 3)):
            coins = draw.randint(-2, 4)
            told[draw.randrange(size)] += coins
            told[draw.randrange(size)] -= coins
        if draw.random() < 0.2:
            told[draw.randrange(size)] += draw.choice((-1, 1))
        yield tuple(told)


class Slacks(unittest.TestCase):
    def test_slack_of(self):
        for web in WEBS:
            purses = tuple(3 * house - 2 for house in range(web[0]))
            for lot in lots(web[0]):
                self.assertEqual(slack_of(web, purses, lot), slack(web, purses, lot))
            self.assertEqual(slack_of(web, purses, ()), 0)
        self.assertEqual(slack_of((1, ()), (-HUGE,), (0,)), -HUGE)

    def test_is_standing(self):
        for web in WEBS:
            known = standings(web)
            rooms = rooms_of(web)
            if (rooms + 2) ** web[0] <= 3000:
                for purses in product(range(-1, rooms + 1), repeat=web[0]):
                    self.assertIs(is_standing(web, purses), purses in known)
            for purses in known:
                self.assertIs(is_standing(web, purses), True)
                for other in near_purses(web, purses):
                    self.assertIs(is_standing(web, other), other in known)

    def test_no_standing(self):
        for thing in (None, 5, "203", (), (2, 0), (2, 0, 3, 0), [2, 0, 3], (2, False, 3), (2, 0, None), (True, 1, 3),
                      (2, 0, 4), (2, 0, 2), (3, 0, 2), (-1, 3, 3), ((2,), 0, 3)):
            self.assertIs(is_standing(ROW, thing), False, thing)
        self.assertIs(is_standing((1, ()), (0,)), True)
        self.assertIs(is_standing((1, ()), (1,)), False)
        self.assertIs(is_standing((1, ()), ()), False)
        self.assertIs(is_standing((3, ()), (0, 0, 0)), True)

    def test_shut_lots(self):
        for web in WEBS:
            for purses in standings(web):
                told = [lot for lot in lots(web[0]) if slack(web, purses, lot) == 0]
                self.assertEqual(shut_lots(web, purses), tuple(told))
        self.assertEqual(shut_lots((1, ()), (0,)), ((), (0,)))
        self.assertEqual(shut_lots((2, ()), (0, 0)), ((), (0,), (0, 1), (1,)))

    def check_short(self, web, purses, known):
        told = short_lot(web, purses)
        if purses in known:
            self.assertIsNone(told)
        elif sum(purses) != rooms_of(web):
            self.assertEqual(told, tuple(range(web[0])))
        else:
            self.assertEqual(told, innermost(least_slack(web, purses, lots(web[0]))))

    def test_short_lot(self):
        for web in WEBS:
            known = standings(web)
            for purses in known:
                self.check_short(web, purses, known)
                for other in near_purses(web, purses):
                    self.check_short(web, other, known)
            self.check_short(web, (-1,) * web[0], known)

    def test_several_lots_of_least_slack(self):
        # (0,), (0, 1) and (0, 1, 2) have the slack -1
        web = (4, ((0, 1, 1), (1, 2, 1), (2, 3, 2)))
        purses = (-1, 1, 1, 3)
        self.assertEqual([slack(web, purses, lot) for lot in ((0,), (0, 1), (0, 1, 2))], [-1, -1, -1])
        self.assertEqual(short_lot(web, purses), (0,))
        # two lots apart together have less slack than each alone
        self.assertEqual(short_lot((4, ((0, 1, 1), (2, 3, 1))), (-1, 2, -1, 2)), (0, 2))
        self.assertEqual(short_lot(RING, (0, 0, 3)), (0, 1))
        self.assertEqual(short_lot((1, ()), (1,)), (0,))
        self.assertEqual(short_lot((2, ()), (1, -1)), (1,))

    def test_great_webs(self):
        for seed in range(12):
            web = great_web(seed)
            size = web[0]
            _, purses = some_standing(web, seed)
            self.assertIs(is_standing(web, purses), True)
            self.assertIsNone(short_lot(web, purses))
            self.assertEqual(purses_at(web, some_split(web, purses)), purses)
            told = [lot for lot in lots(size) if slack(web, purses, lot) == 0]
            self.assertEqual(shut_lots(web, purses), tuple(told))
            draw = random.Random(seed)
            for _ in range(10):
                other = list(purses)
                for _ in range(4):
                    coins = draw.randint(0, HUGE)
                    other[draw.randrange(size)] += coins
                    other[draw.randrange(size)] -= coins
                slacks = [slack(web, other, lot) for lot in lots(size)]
                self.assertIs(is_standing(web, tuple(other)), min(slacks) == 0)
                if min(slacks) < 0:
                    self.assertEqual(short_lot(web, tuple(other)), innermost(least_slack(web, other, lots(size))))

    def test_returned_webs(self):
        web = with_line(with_line(beside(great_web(1), great_web(2)), 0, 8, HUGE), 7, 15, HUGE)
        split, purses = some_standing(web, 1)
        self.assertIs(is_standing(web, purses), True)
        self.assertEqual(purses_at(web, some_split(web, purses)), purses)
        lot = tuple(range(8))
        short = list(purses)
        short[0] -= slack(web, purses, lot) + 1
        short[9] += slack(web, purses, lot) + 1
        told = short_lot(web, tuple(short))
        self.assertIs(is_standing(web, tuple(short)), False)
        self.assertLessEqual(slack(web, short, told), -1)
        self.assertEqual(slack_of(web, tuple(short), told), sum(short[house] for house in told) - within(web, told))


class Standings(unittest.TestCase):
    def test_some_split(self):
        for web in WEBS:
            for purses, same in standings(web).items():
                self.assertIn(some_split(web, purses), same)
        self.assertEqual(some_split((1, ()), (0,)), ())
        self.assertEqual(some_split((3, ()), (0, 0, 0)), ())


if __name__ == "__main__":
    unittest.main()
