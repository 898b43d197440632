"""Weights of forests, tables, forests that join told houses."""

import random
import unittest
from itertools import permutations

from reckon import (
    HUGE, RING, ROW, TWICE, forests, great_web, kept, lots, narrow_web, orders, small_webs, standings,
)
from howeverled.errors import InvalidPaper
from howeverled.forestweights import breadth_of, forest_weight, signed_weight, tree_weight, weights_by_lines
from howeverled.foresttables import frontier_of, lets_tables, tables_of
from howeverled.joinedweights import club_weight, joined_weight, joining_weight
from howeverled.joinings import joinings_of
from howeverled.reaches import peel_of, reach_of
from howeverled.webchanges import beside, made_one, renamed, with_line, without_line
from howeverled.webs import hangs_together

WEBS = small_webs(200, many=40, seed=31)


def frontier(web, order, many):
    early, late = order[:many], order[many:]
    return tuple(sorted(
        house for house in early
        if any(house in line[:2] and (line[0] in late or line[1] in late) for line in web[1])
    ))


def tables(web, order):
    """The tables, by all sets of lines without a ring."""
    told = []
    for many in range(web[0] + 1):
        ends = frontier(web, order, many)
        lot = sorted(order[:many])
        sums = {}
        if many == 0:
            sums[()] = 1
        else:
            for _, weight, joined in forests(kept(web, lot)):
                marks = [joined[lot.index(house)] for house in ends]
                joining = tuple(marks.index(mark) for mark in marks)
                sums[joining] = sums.get(joining, 0) + weight
        told.append(tuple(sorted(sums.items())))
    return tuple(told)


def joins_as(joined, lot, joining):
    """True if two houses of the lot are in one club exactly if the joining joins them."""
    return all((joined[one] == joined[other]) == (joining[at] == joining[to])
               for at, one in enumerate(lot) for to, other in enumerate(lot))


def determinant(rows):
    """By whole numbers alone."""
    rows = [list(row) for row in rows]
    size = len(rows)
    sign, before = 1, 1
    for k in range(size - 1):
        if rows[k][k] == 0:
            other = next((i for i in range(k + 1, size) if rows[i][k]), None)
            if other is None:
                return 0
            rows[k], rows[other] = rows[other], rows[k]
            sign = -sign
        for i in range(k + 1, size):
            for j in range(k + 1, size):
                rows[i][j] = (rows[i][j] * rows[k][k] - rows[i][k] * rows[k][j]) // before
        before = rows[k][k]
    return sign * rows[-1][-1] if size else 1


def tree_sum(web):
    """The tree weight by the determinant of the rooms."""
    size, lines = web
    rows = [[0] * size for _ in range(size)]
    for one, other, room in lines:
        rows[one][one] += room
        rows[other][other] += room
        rows[one][other] -= room
        rows[other][one] -= room
    return determinant([row[1:] for row in rows[1:]])


class Weights(unittest.TestCase):
    def test_against_all_forests(self):
        for web in WEBS:
            size = web[0]
            all_of = forests(web)
            whole = sum(weight for _, weight, _ in all_of)
            self.assertEqual(forest_weight(web), whole)
            self.assertEqual(len(standings(web)), whole)
            trees = sum(weight for places, weight, _ in all_of if len(places) == size - 1)
            self.assertEqual(tree_weight(web), trees)
            self.assertEqual(tree_weight(web) > 0, hangs_together(web))
            signed = sum(weight * (-1) ** (size - 1 - len(places)) for places, weight, _ in all_of)
            self.assertEqual(signed_weight(web), signed)
            if hangs_together(web):
                self.assertGreaterEqual(signed, 0)
            by_lines = [sum(weight for places, weight, _ in all_of if len(places) == many) for many in range(size)]
            self.assertEqual(weights_by_lines(web), tuple(by_lines))
            wide = [len(frontier(web, range(size), house + 1)) for house in range(size)]
            self.assertEqual(breadth_of(web), max(wide))

    def test_edges(self):
        self.assertEqual((forest_weight((1, ())), tree_weight((1, ())), signed_weight((1, ()))), (1, 1, 1))
        self.assertEqual((forest_weight((2, ())), tree_weight((2, ())), signed_weight((2, ()))), (1, 0, -1))
        self.assertEqual((forest_weight((3, ())), signed_weight((3, ())), weights_by_lines((3, ()))), (1, 1, (1, 0, 0)))
        self.assertEqual((weights_by_lines((1, ())), breadth_of((1, ())), breadth_of((4, ()))), ((1,), 0, 0))
        self.assertEqual((forest_weight(TWICE), tree_weight(TWICE), signed_weight(TWICE)), (4, 3, 2))
        self.assertEqual(forest_weight((2, ((0, 1, HUGE), (0, 1, HUGE)))), 2 * HUGE + 1)
        self.assertEqual(breadth_of((5, ((0, 4, 1), (1, 4, 1), (2, 4, 1), (3, 4, 1)))), 4)
        self.assertEqual(breadth_of((5, ((0, 1, 1), (0, 2, 1), (0, 3, 1), (0, 4, 1)))), 1)

    def check_changes(self, web):
        """Without a line, with its houses made one; sums of the weights by lines."""
        whole = forest_weight(web)
        by_lines = weights_by_lines(web)
        self.assertEqual((sum(by_lines), by_lines[-1]), (whole, tree_weight(web)))
        self.assertEqual(tree_weight(web), tree_sum(web))
        alternating = sum(weight if (web[0] - 1 - many) % 2 == 0 else -weight for many, weight in enumerate(by_lines))
        self.assertEqual(signed_weight(web), alternating)
        for line in (0, len(web[1]) - 1):
            one, other, room = web[1][line]
            less = whole - room * forest_weight(made_one(web, one, other))
            self.assertEqual(forest_weight(without_line(web, line)), less)

    def test_great_webs(self):
        for seed in range(6):
            web = great_web(seed)
            self.check_changes(web)
            order = tuple(random.Random(seed).sample(range(8), 8))
            self.assertEqual(forest_weight(renamed(web, order)), forest_weight(web))
        web = great_web(7)
        self.assertEqual(forest_weight(web), sum(weight for _, weight, _ in forests(web)))

    def test_narrow_webs(self):
        for seed in range(3):
            web = narrow_web(seed)
            self.assertEqual((web[0], len(web[1])), (40, 60))
            self.assertLessEqual(breadth_of(web), 4)
            self.check_changes(web)
        self.assertEqual(forest_weight((40, ())), 1)
        row = (40, tuple((house, house + 1, house + 1) for house in range(39)))
        whole = 1
        for room in range(1, 40):
            whole *= room + 1
        self.assertEqual(forest_weight(row), whole)

    def test_returned_webs(self):
        one, other = great_web(1), great_web(2)
        web = beside(one, other)
        self.assertEqual(forest_weight(web), forest_weight(one) * forest_weight(other))
        self.assertEqual(tree_weight(web), 0)
        joined = with_line(web, 3, 12, 5)
        self.assertEqual(forest_weight(joined), 6 * forest_weight(web))
        self.assertEqual(tree_weight(joined), 5 * tree_weight(one) * tree_weight(other))
        full = with_line(joined, 15, 0, HUGE)
        self.assertEqual((full[0], len(full[1])), (16, 30))
        self.check_changes(full)
        mixed = renamed(full, tuple((7 * house + 3) % 16 for house in range(16)))
        self.assertEqual(weights_by_lines(mixed), weights_by_lines(full))
        self.check_changes(great_web(5, size=16, many=30))


    def test_many_houses_held_at_once(self):
        """A house linked to all others of a row of fifteen: by its own sequence fifteen are held."""
        web = (16, (*[(house, 15, 5) for house in range(15)], *[(house, house + 1, 3) for house in range(14)]))
        self.assertEqual(breadth_of(web), 15)
        self.assertEqual(forest_weight(web), self.fan_weight(14))
        self.check_changes(web)

    def fan_weight(self, rows):
        """The forest weight of house 15 with a row of houses, by how many of them the last club of the row has."""
        ends = {1: 1}
        for _ in range(rows):
            closed = sum(weight * (1 + 5 * many) for many, weight in ends.items())
            ends = {1: closed, **{many + 1: 3 * weight for many, weight in ends.items()}}
        return sum(weight * (1 + 5 * many) for many, weight in ends.items())


class Tables(unittest.TestCase):
    def test_against_all_forests(self):
        for web in small_webs(100, many=25, seed=32):
            for order in orders(web[0], 3, 5):
                told = tables(web, order)
                self.assertEqual(tables_of(web, order), told)
                self.assertEqual(lets_tables(web, order, told), forest_weight(web))
                for many in range(web[0] + 1):
                    self.assertEqual(frontier_of(web, order, many), frontier(web, order, many))
                    if many:
                        part = kept(web, sorted(order[:many]))
                        self.assertEqual(sum(weight for _, weight in told[many]), forest_weight(part))

    def test_edges(self):
        self.assertEqual(tables_of((1, ()), (0,)), ((((), 1),), (((), 1),)))
        self.assertEqual(frontier_of((1, ()), (0,), 1), ())
        self.assertEqual(frontier_of(RING, (2, 1, 0), 2), (1, 2))
        self.assertEqual(tables_of((3, ()), (2, 0, 1)), ((((), 1),),) * 4)

    def test_great_webs(self):
        for seed in range(3):
            web = great_web(seed)
            whole = forest_weight(web)
            for order in orders(8, 2, seed):
                told = tables_of(web, order)
                self.assertEqual(told[-1], (((), whole),))
                self.assertEqual(lets_tables(web, order, told), whole)

    def test_refusals(self):
        order = (1, 0, 2)
        right = tables_of(ROW, order)
        same = tuple(tuple((joining, weight) for joining, weight in table) for table in right)
        self.assertEqual(lets_tables(ROW, order, same), 12)
        wrong = [(list(right), ("shape", -1)), (None, ("shape", -1)), (right[:-1], ("shape", -1)),
                 ((*right, right[0]), ("shape", -1)), ((), ("shape", -1))]
        for place, bad in ((0, ()), (0, (((), True),)), (0, ([(), 1],)), (1, (((False,), 1),)), (1, (((0,), 2),)),
                           (1, [((0,), 1)]), (2, (((0,), 3), ((0,), 3))), (2, (((0,), 4),)), (3, None), (3, ((), 12)),
                           (1, (([0], 1),)), (0, (((), 1, 1),)), (3, (((), -12),)), (2, ())):
            wrong.append(((*right[:place], bad, *right[place + 1:]), ("table", place)))
        wrong.append(((right[0], None, right[2], None), ("table", 1)))
        for thing, told in wrong:
            with self.assertRaises(InvalidPaper) as caught:
                lets_tables(ROW, order, thing)
            self.assertEqual((caught.exception.word, caught.exception.at), told, thing)
        ring = tables_of(RING, (0, 1, 2))
        for bad in (ring[2][::-1], ring[2][:1], (*ring[2], ring[2][0]), (((0, 0), 2), ((0, 1), 1))):
            with self.assertRaises(InvalidPaper) as caught:
                lets_tables(RING, (0, 1, 2), (*ring[:2], bad, ring[3]))
            self.assertEqual((caught.exception.word, caught.exception.at), ("table", 2))


class Joined(unittest.TestCase):
    def test_against_all_forests(self):
        for web in small_webs(100, many=25, seed=33):
            size = web[0]
            all_of = forests(web)
            whole = sum(weight for _, weight, _ in all_of)
            for lot in lots(size):
                told = sum(weight for _, weight, joined in all_of if len({joined[house] for house in lot}) <= 1)
                self.assertEqual(joined_weight(web, lot), told)
                total = 0
                for joining in joinings_of(len(lot)):
                    told = sum(weight for _, weight, joined in all_of if joins_as(joined, lot, joining))
                    self.assertEqual(joining_weight(web, lot, joining), told)
                    total += told
                self.assertEqual(total, whole)
                self.assertEqual(joining_weight(web, lot, (0,) * len(lot)), joined_weight(web, lot))
            for house in range(size):
                total = 0
                for lot in lots(size):
                    told = sum(
                        weight for _, weight, joined in all_of
                        if lot == tuple(other for other in range(size) if joined[other] == joined[house])
                    )
                    self.assertEqual(club_weight(web, house, lot), told)
                    total += told
                self.assertEqual(total, whole)

    def test_reaches_and_peels(self):
        """Just as many standings have a told reach, or a told peel, or let one pay all of a lot."""
        for web in small_webs(60, many=15, seed=34):
            size = web[0]
            known = standings(web)
            for house in range(size):
                found = [reach_of(web, purses, house) for purses in known]
                for lot in lots(size):
                    self.assertEqual(found.count(lot), club_weight(web, house, lot))
                    if house in lot:
                        can = sum(1 for told in found if set(lot) <= set(told))
                        self.assertEqual(can, joined_weight(web, lot))
            peels = [peel_of(web, purses, tuple(range(size))) for purses in known]
            for joining in joinings_of(size):
                told = sum(weight for _, weight, joined in forests(web) if joined == joining)
                self.assertEqual(peels.count(joining), told)

    def test_edges(self):
        self.assertEqual((joined_weight(ROW, ()), joining_weight(ROW, (), ())), (12, 12))
        self.assertEqual([joined_weight(ROW, (house,)) for house in range(3)], [12, 12, 12])
        self.assertEqual((joined_weight((1, ()), (0,)), club_weight((1, ()), 0, (0,))), (1, 1))
        self.assertEqual((club_weight(ROW, 0, ()), club_weight(ROW, 0, (1, 2)), club_weight(ROW, 0, (0, 2))), (0, 0, 0))
        self.assertEqual(club_weight(ROW, 1, (0, 1, 2)), 6)
        self.assertEqual(joining_weight((4, ((0, 1, 1), (2, 3, 2))), (0, 2), (0, 0)), 0)

    def test_returned_webs(self):
        web = with_line(with_line(beside(great_web(1), great_web(2)), 0, 8, HUGE), 7, 15, HUGE)
        whole = forest_weight(web)
        self.assertEqual(joined_weight(web, tuple(range(16))), tree_weight(web))
        self.assertEqual(joining_weight(web, (3, 12), (0, 0)) + joining_weight(web, (3, 12), (0, 1)), whole)
        lot = (1, 6, 9, 14)
        self.assertEqual(sum(joining_weight(web, lot, joining) for joining in joinings_of(4)), whole)
        self.assertEqual(joining_weight(web, tuple(range(16)), tuple(range(16))), 1)

    def test_names_do_not_matter(self):
        for web in small_webs(60, many=10, seed=35):
            for order in list(permutations(range(web[0])))[:8]:
                other = renamed(web, order)
                for lot in lots(web[0]):
                    moved = tuple(sorted(order[house] for house in lot))
                    self.assertEqual(joined_weight(other, moved), joined_weight(web, lot))


if __name__ == "__main__":
    unittest.main()
