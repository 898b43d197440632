"""Splits, rings, and turns between splits."""

import unittest
from itertools import product

from reckon import (
    HUGE, RING, ROW, TWICE, clubs, great_web, led, purses_at, rings, small_webs, some_standing, splits, standings,
    ways, width,
)
from howeverled.errors import InvalidPaper, NotUsable
from howeverled.rings import is_ring, is_way, led_along
from howeverled.splits import all_splits, ends_at, purses_of, turned_over, turned_purses
from howeverled.standings import some_split
from howeverled.turnpapers import lets_turns, turns_between
from howeverled.webchanges import beside, with_line
from howeverled.webs import hold_of, rooms_of

WEBS = small_webs(100)


class Splits(unittest.TestCase):
    def test_all_splits(self):
        for web in WEBS:
            self.assertEqual(list(all_splits(web)), splits(web))
        self.assertEqual(list(all_splits((1, ()))), [()])
        self.assertEqual(list(all_splits((3, ()))), [()])
        wide = (2, ((0, 1, HUGE),))
        told = all_splits(wide)
        self.assertEqual([next(told) for _ in range(3)], [(0,), (1,), (2,)])

    def test_purses(self):
        for web in WEBS:
            for split in splits(web):
                purses = purses_of(web, split)
                self.assertEqual(purses, purses_at(web, split))
                self.assertEqual(sum(purses), rooms_of(web))
                for house in range(web[0]):
                    ends = ends_at(web, split, house)
                    self.assertEqual(len(ends), len(web[1]))
                    self.assertEqual(sum(ends), purses[house])
                    self.assertLessEqual(purses[house], hold_of(web, house))
                    for (one, other, room), near, end in zip(web[1], split, ends):
                        self.assertEqual(end, near if house == one else room - near if house == other else 0)

    def test_turned_over(self):
        for web in WEBS:
            for split in splits(web):
                turned = turned_over(web, split)
                self.assertEqual(turned, tuple(line[2] - near for line, near in zip(web[1], split)))
                self.assertEqual(turned_purses(web, purses_of(web, split)), purses_of(web, turned))

    def test_turned_purses_of_any_purses(self):
        self.assertEqual(turned_purses(ROW, (0, 0, 0)), (2, 5, 3))
        self.assertEqual(turned_purses(ROW, (2, 5, 3)), (0, 0, 0))
        self.assertEqual(turned_purses((2, ()), (0, 0)), (0, 0))
        for purses in ((3, 0, 0), (0, 6, 0), (0, 0, 4), (0, -1, 0), (0, 0), (0, 0, 0, 0), [0, 0, 0], (0, True, 0)):
            with self.assertRaises(NotUsable) as caught:
                turned_purses(ROW, purses)
            self.assertEqual((caught.exception.word, caught.exception.at), ("purses", -1))

    def test_a_web_without_a_ring(self):
        for web in (ROW, (4, ((0, 3, 2), (1, 3, 1), (2, 3, 2))), (5, ((1, 3, 2), (0, 4, 1)))):
            self.assertEqual([len(same) for same in standings(web).values()], [1] * len(splits(web)))


class Rings(unittest.TestCase):
    def test_ways_and_rings(self):
        for web in WEBS:
            size, lines = web
            if len(lines) > 4:
                continue
            things = [thing for many in range(5) for thing in product(range(len(lines)), repeat=many)]
            for here in range(size):
                told = [thing for thing in things if is_ring(web, here, thing)]
                self.assertEqual(sorted(told), sorted(rings(web, here)))
                for there in range(size):
                    if there != here:
                        told = [thing for thing in things if is_way(web, here, there, thing)]
                        self.assertEqual(sorted(told), sorted(ways(web, here, there)))

    def test_no_ways(self):
        for thing in (None, 0, "0", [0], (), (True,), (-1,), (2,), (None,), ((0,),), (1,), (0, 0), (0, 1, 1)):
            self.assertIs(is_way(ROW, 0, 1, thing), False, thing)
            self.assertIs(is_ring(ROW, 0, thing), False, thing)
        self.assertIs(is_ring(TWICE, 0, (False, 1)), False)
        self.assertIs(is_ring(TWICE, 0, [0, 1]), False)
        self.assertIs(is_ring(TWICE, 0, (0, 1)), True)
        self.assertIs(is_ring(TWICE, 1, (1, 0)), True)
        self.assertIs(is_ring(TWICE, 0, (0, 0)), False)
        self.assertIs(is_ring((1, ()), 0, ()), False)

    def test_no_house_twice(self):
        web = (4, ((0, 1, 1), (0, 1, 1), (1, 2, 1), (2, 3, 1), (1, 3, 1)))
        self.assertIs(is_way(web, 0, 2, (0, 1, 0, 2)), False)
        self.assertIs(is_way(web, 0, 1, (0, 2, 3, 4)), False)
        self.assertIs(is_way(web, 0, 3, (0, 2, 3)), True)
        self.assertIs(is_ring(web, 0, (0, 2, 3, 4, 1)), False)
        self.assertIs(is_ring(web, 1, (2, 3, 4)), True)
        self.assertIs(is_ring(web, 1, (0, 1, 2, 3, 4)), False)

    def test_led_along(self):
        for web in small_webs(40, many=12):
            for split in splits(web):
                for house in range(web[0]):
                    along = rings(web, house)
                    for other in range(web[0]):
                        along = along + (ways(web, house, other) if other != house else [])
                    for way in along:
                        most = width(web, split, house, way)
                        for coins in range(1, most + 1):
                            told = led_along(web, split, house, way, coins)
                            self.assertEqual(told, led(web, split, house, way, coins))
                        with self.assertRaises(NotUsable) as caught:
                            led_along(web, split, house, way, most + 1)
                        self.assertEqual((caught.exception.word, caught.exception.at), ("coins", -1))


class Turns(unittest.TestCase):
    def check(self, web, split, other):
        turns = turns_between(web, split, other)
        size, lines = web
        self.assertIs(type(turns), tuple)
        self.assertLessEqual(len(turns), len(lines) - size + len(set(clubs(size, lines))))
        now = split
        way_of = [0] * len(lines)
        for house, ring, coins in turns:
            self.assertIs(is_ring(web, house, ring), True)
            self.assertGreaterEqual(coins, 1)
            after = led(web, now, house, ring, coins)
            for place in range(len(lines)):
                step = after[place] - now[place]
                self.assertGreaterEqual(step * way_of[place], 0)
                way_of[place] = way_of[place] or step
            now = after
        self.assertEqual(now, other)
        self.assertEqual(lets_turns(web, split, turns), other)
        if split == other:
            self.assertEqual(turns, ())

    def test_between_any_two(self):
        for web in small_webs(150, many=60, seed=3):
            for same in standings(web).values():
                for split, other in product(same, same):
                    self.check(web, split, other)

    def test_great_webs(self):
        for seed in range(20):
            web = great_web(seed)
            split, purses = some_standing(web, seed)
            self.check(web, split, some_split(web, purses))
            self.check(web, some_split(web, purses), split)
        web = with_line(with_line(beside(great_web(1), great_web(2)), 0, 8, HUGE), 7, 15, HUGE)
        split, purses = some_standing(web, 1)
        self.check(web, split, some_split(web, purses))

    def test_other_purses(self):
        for other in ((0, 2), (1, 0), (1,), [1, 1], (True, 1), None):
            with self.assertRaises(NotUsable) as caught:
                turns_between(ROW, (1, 1), other)
            self.assertEqual((caught.exception.word, caught.exception.at), ("other", -1))
        self.assertEqual(turns_between((3, ()), (), ()), ())

    def test_checker_in_any_directions(self):
        self.assertEqual(lets_turns(TWICE, (1, 0), ((0, (0, 1), 1), (0, (1, 0), 1), (1, (1, 0), 1))), (0, 1))
        self.assertEqual(lets_turns(TWICE, (1, 0), ()), (1, 0))
        self.assertEqual(lets_turns((1, ()), (), ()), ())

    def test_checker_refuses(self):
        right = (0, (0, 2, 1), 1)
        back = (0, (1, 2, 0), 1)
        for thing, told in (
            ([], ("shape", -1)),
            (None, ("shape", -1)),
            ((None,), ("shape", 0)),
            (((0, (0, 2, 1)),), ("shape", 0)),
            (((0, (0, 2, 1), 1, 1),), ("shape", 0)),
            ((right, [0, (1, 2, 0), 1]), ("shape", 1)),
            (((3, (0, 2, 1), 1),), ("house", 0)),
            (((False, (0, 2, 1), 1),), ("house", 0)),
            (((-1, None, None),), ("house", 0)),
            (((0, (2, 1, 0), 1),), ("ring", 0)),
            (((0, [0, 2, 1], 1),), ("ring", 0)),
            (((0, (0, 2), 0),), ("ring", 0)),
            (((0, (0, 2, 1), 0),), ("coins", 0)),
            (((0, (0, 2, 1), True),), ("coins", 0)),
            (((0, (0, 2, 1), 2),), ("coins", 0)),
            (((0, (1, 2, 0), 1),), ("coins", 0)),
            ((right, right), ("coins", 1)),
            ((right, back, back), ("coins", 2)),
            ((right, (0, (0, 2, 1), 1), None), ("coins", 1)),
            ((right, (0, (0,), 1), (9, (), 0)), ("ring", 1)),
        ):
            with self.assertRaises(InvalidPaper) as caught:
                lets_turns(RING, (1, 0, 1), thing)
            self.assertEqual((caught.exception.word, caught.exception.at), told, thing)


if __name__ == "__main__":
    unittest.main()
