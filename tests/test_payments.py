"""Who can pay whom and how much; spans; moments."""

import random
import unittest
from itertools import permutations, product

from reckon import (
    HUGE, RING, ROW, TWICE, bar, great_web, innermost, joining_by, kept, least_slack, lots, most, moved, purses_at,
    slack, small_webs, some_standing, splits, standings, ways, width,
)
from howeverled.errors import NotUsable, Refused
from howeverled.momentclasses import Moment
from howeverled.mosts import bar_of, most_of, most_table
from howeverled.reaches import classes_of, payers_of, peel_either, peel_of, reach_of
from howeverled.spans import span_of, split_holding
from howeverled.splits import turned_purses
from howeverled.webchanges import beside, with_line

WEBS = small_webs(60)


def reach(known, purses, house):
    return tuple(
        other for other in range(len(purses)) if other == house or moved(purses, house, other, 1) in known
    )


def payers(known, purses, house):
    return tuple(
        other for other in range(len(purses)) if other == house or moved(purses, other, house, 1) in known
    )


def peel(web, purses, order, sides):
    """The peel as it is told, web by web."""
    left = list(range(web[0]))
    blocks = []
    for house, side in zip(order, sides):
        if house not in left:
            continue
        part = kept(web, left)
        taken = (reach if side == "out" else payers)(standings(part), purses, left.index(house))
        block = [left[place] for place in taken]
        blocks.append(block)
        rest = [one for one in left if one not in block]
        coins = dict(zip(left, purses))
        if side == "out":
            for one, other, room in web[1]:
                for here, there in ((one, other), (other, one)):
                    if here in rest and there in block:
                        coins[here] -= room
        left = rest
        purses = tuple(coins[house] for house in left)
    return joining_by(web[0], blocks)


class Payments(unittest.TestCase):
    def test_mosts_and_bars(self):
        for web in WEBS:
            known = standings(web)
            for purses in known:
                table = []
                for here in range(web[0]):
                    row = []
                    for there in range(web[0]):
                        if here == there:
                            row.append(0)
                            continue
                        coins = most(known, purses, here, there)
                        self.assertEqual(most_of(web, purses, here, there), coins)
                        lot = bar_of(web, purses, here, there)
                        self.assertEqual(lot, bar(web, purses, here, there))
                        self.assertEqual(slack(web, purses, lot), coins)
                        row.append(coins)
                    table.append(tuple(row))
                self.assertEqual(most_table(web, purses), tuple(table))
        self.assertEqual(most_table((1, ()), (0,)), ((0,),))

    def test_one_coin_by_ways(self):
        """A house can pay a coin if from some split, and so from each, a way leads one."""
        for web in small_webs(30, many=15, seed=4):
            for purses, same in standings(web).items():
                for here, there in permutations(range(web[0]), 2):
                    can = most_of(web, purses, here, there) >= 1
                    for split in same:
                        leads = [way for way in ways(web, here, there) if width(web, split, here, way) >= 1]
                        self.assertIs(bool(leads), can)

    def test_reaches(self):
        for web in WEBS:
            known = standings(web)
            for purses in known:
                shut = [lot for lot in lots(web[0]) if slack(web, purses, lot) == 0]
                for house in range(web[0]):
                    told = reach_of(web, purses, house)
                    self.assertEqual(told, reach(known, purses, house))
                    self.assertEqual(told, innermost([lot for lot in shut if house in lot]))
                    told = payers_of(web, purses, house)
                    self.assertEqual(told, payers(known, purses, house))
                    self.assertEqual(told, reach_of(web, turned_purses(web, purses), house))

    def test_peels(self):
        for web in small_webs(24, many=12, seed=6):
            size = web[0]
            draw = random.Random(size)
            for purses in standings(web):
                for order in draw.sample(list(permutations(range(size))), min(6, len(list(permutations(range(size)))))):
                    self.assertEqual(peel_of(web, purses, order), peel(web, purses, order, ["out"] * size))
                    sides = tuple(draw.choice(("out", "in")) for _ in range(size))
                    for told in (sides, ("in",) * size):
                        self.assertEqual(peel_either(web, purses, order, told), peel(web, purses, order, told))
                    self.assertEqual(peel_either(web, purses, order, ("out",) * size), peel_of(web, purses, order))

    def test_peel_counts(self):
        """Each peel comes at as many standings, whatever is taken."""
        for web in small_webs(24, many=12, seed=6):
            size = web[0]
            counts = []
            for order, sides in (
                (tuple(range(size)), ("out",) * size),
                (tuple(reversed(range(size))), ("in",) * size),
                (tuple(range(size)), ("out", "in", "in", "out", "in")[:size]),
            ):
                count = {}
                for purses in standings(web):
                    joining = peel_either(web, purses, order, sides)
                    count[joining] = count.get(joining, 0) + 1
                counts.append(count)
            self.assertEqual(counts[0], counts[1])
            self.assertEqual(counts[0], counts[2])

    def test_classes(self):
        for web in WEBS:
            known = standings(web)
            for purses in known:
                for coins in range(1, 5):
                    blocks = []
                    for house in range(web[0]):
                        blocks.append([
                            other for other in range(web[0])
                            if other == house or (moved(purses, house, other, coins) in known
                                                  and moved(purses, other, house, coins) in known)
                        ])
                    joining = tuple(min(block) for block in blocks)
                    self.assertEqual(classes_of(web, purses, coins), joining)
                    self.assertEqual(joining_by(web[0], blocks), joining)

    def test_great_webs(self):
        for seed in range(8):
            web = great_web(seed)
            size = web[0]
            _, purses = some_standing(web, seed)
            table = most_table(web, purses)
            for here, there in permutations(range(size), 2):
                among = [lot for lot in lots(size) if here in lot and there not in lot]
                least = min(slack(web, purses, lot) for lot in among)
                self.assertEqual(table[here][there], least)
                self.assertEqual(bar_of(web, purses, here, there), innermost(least_slack(web, purses, among)))
            for house in range(size):
                told = tuple(other for other in range(size) if other == house or table[house][other] > 0)
                self.assertEqual(reach_of(web, purses, house), told)

    def test_returned_webs(self):
        web = with_line(with_line(beside(great_web(1), great_web(2)), 0, 8, 5), 7, 15, HUGE)
        _, purses = some_standing(web, 9)
        table = most_table(web, purses)
        self.assertEqual((len(table), len(table[3])), (16, 16))
        for here, there in ((0, 15), (15, 0), (8, 1), (3, 12)):
            self.assertEqual(slack(web, purses, bar_of(web, purses, here, there)), table[here][there])
        self.assertEqual(len(peel_of(web, purses, tuple(range(16)))), 16)
        self.assertEqual(len(classes_of(web, purses, HUGE)), 16)


class Spans(unittest.TestCase):
    def test_spans(self):
        for web in WEBS:
            for purses, same in standings(web).items():
                for line in range(len(web[1])):
                    nears = sorted({split[line] for split in same})
                    told = span_of(web, purses, line)
                    self.assertEqual(told, (nears[0], nears[-1]))
                    self.assertEqual(nears, list(range(told[0], told[1] + 1)))
                    for near in range(-1, web[1][line][2] + 2):
                        if near in nears:
                            split = split_holding(web, purses, line, near)
                            self.assertIn(split, same)
                            self.assertEqual(split[line], near)
                            continue
                        with self.assertRaises(NotUsable) as caught:
                            split_holding(web, purses, line, near)
                        self.assertEqual((caught.exception.word, caught.exception.at), ("near", -1))

    def test_great_webs(self):
        for seed in range(8):
            web = great_web(seed)
            _, purses = some_standing(web, seed)
            for line in range(len(web[1])):
                least, greatest = span_of(web, purses, line)
                for near in (least, greatest, (least + greatest) // 2):
                    split = split_holding(web, purses, line, near)
                    self.assertEqual((purses_at(web, split), split[line]), (purses, near))
                for near in (least - 1, greatest + 1):
                    with self.assertRaises(NotUsable):
                        split_holding(web, purses, line, near)


class Moments(unittest.TestCase):
    def test_methods(self):
        for web in small_webs(24, many=10, seed=8):
            known = standings(web)
            for purses in known:
                moment = Moment(web, purses)
                self.assertEqual(moment.told(), (web, purses))
                for house in range(web[0]):
                    self.assertEqual(moment.reach(house), reach(known, purses, house))
                for line in range(len(web[1])):
                    self.assertEqual(moment.span(line), span_of(web, purses, line))
                for here, there in permutations(range(web[0]), 2):
                    greatest = most(known, purses, here, there)
                    self.assertEqual(moment.most(here, there), greatest)
                    for coins in range(1, greatest + 1):
                        self.assertIs(moment.can(here, there, coins), True)
                        after = moment.pay(here, there, coins)
                        self.assertIs(type(after), Moment)
                        self.assertEqual(after.told(), (web, moved(purses, here, there, coins)))
                    self.assertIs(moment.can(here, there, greatest + 1), False)
                    with self.assertRaises(Refused) as caught:
                        moment.pay(here, there, greatest + 1)
                    self.assertEqual(caught.exception.lot, bar(web, purses, here, there))
                self.assertEqual(moment.told(), (web, purses))

    def test_equal(self):
        moment = Moment(ROW, (2, 0, 3))
        self.assertIs(moment == Moment(ROW, (2, 0, 3)), True)
        self.assertIs(moment != Moment(ROW, (2, 0, 3)), False)
        self.assertIs(moment == Moment((3, ((0, 2, 2), (1, 2, 3))), (2, 0, 3)), False)
        for other in (Moment(ROW, (1, 1, 3)), Moment(RING, (1, 1, 1)), (ROW, (2, 0, 3)), None, 0, "moment"):
            self.assertIs(moment == other, False)
            self.assertIs(moment != other, True)
        self.assertEqual(moment.pay(0, 1, 1).pay(1, 0, 1), moment)
        self.assertEqual(Moment((1, ()), (0,)).told(), ((1, ()), (0,)))

    def test_wrong(self):
        for arguments, word in (
            ((None, None), "web"), (((2, ((1, 0, 1),)), (0, 1)), "web"), (([3, ()], (0, 0, 0)), "web"),
            ((ROW, (2, 0, 4)), "purses"), ((ROW, [2, 0, 3]), "purses"), ((ROW, (2, False, 3)), "purses"),
        ):
            with self.assertRaises(NotUsable) as caught:
                Moment(*arguments)
            self.assertEqual((caught.exception.word, caught.exception.at), (word, -1))

    def test_transitive(self):
        """Who can pay one that can pay a third one can pay the third one."""
        for web in small_webs(30, many=10, seed=9):
            for purses in standings(web):
                table = most_table(web, purses)
                for here, there, third in permutations(range(web[0]), 3):
                    self.assertGreaterEqual(table[here][third], min(table[here][there], table[there][third]))

    def test_twice(self):
        self.assertEqual([most_of(TWICE, purses_at(TWICE, split), 0, 1) for split in splits(TWICE)], [0, 1, 2, 1, 2, 3])
        for seed, (here, there) in product(range(3), ((0, 1), (1, 0))):
            _, purses = some_standing(TWICE, seed)
            self.assertEqual(most_of(TWICE, purses, here, there), purses[here])


if __name__ == "__main__":
    unittest.main()
