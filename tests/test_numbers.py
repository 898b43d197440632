"""Numbers of standings by a root, and lists of all standings."""

import random
import unittest

from reckon import (
    HUGE, RING, ROW, forests, great_web, small_webs, some_standing, standings, told_paper, walk,
)
from howeverled.errors import NotUsable
from howeverled.forestclasses import Forests
from howeverled.forestweights import forest_weight, tree_weight
from howeverled.marking import marked_of, standing_of
from howeverled.numbering import next_standing, number_of, standing_at
from howeverled.standinglists import all_standings, standings_from
from howeverled.webchanges import beside, with_line

WEBS = small_webs(60, many=30, seed=51)


def weight_of(size, rows):
    """The forest weight of rows [line, one, other, room], by all sets of lines without a ring."""
    web = (size, tuple((min(row[1:3]), max(row[1:3]), row[3]) for row in rows))
    return sum(weight for _, weight, _ in forests(web))


def number_by_marks(web, marks, root):
    """The number of a standing, word by word as it is told, by its marked forest."""
    size = web[0]
    number = 0
    for line, mark, before, rows in walk(web, root, lambda _, host, row: marks[row[0]]):
        if mark:
            without = [row for row in before if row[0] != line]
            number += weight_of(size, without) + (mark - 1) * weight_of(size, rows)
    return number


def told_number(web, purses, root):
    """The number, with the most reckoned over all splits."""
    marks = [0] * len(web[1])
    for line, _, mark in told_paper(web, purses, root):
        marks[line] = mark
    return number_by_marks(web, marks, root)


class Numbers(unittest.TestCase):
    def test_all_standings(self):
        for web in WEBS:
            told = all_standings(web)
            self.assertEqual(told, tuple(sorted(standings(web))))
            self.assertEqual(len(told), forest_weight(web))

    def test_word_by_word(self):
        for web in small_webs(40, many=20, seed=52):
            for root in range(web[0]):
                for purses in standings(web):
                    self.assertEqual(number_of(web, purses, root), told_number(web, purses, root))

    def test_there_and_back(self):
        for web in WEBS:
            known = standings(web)
            for root in range(web[0]):
                by_number = {number_of(web, purses, root): purses for purses in known}
                self.assertEqual(sorted(by_number), list(range(len(known))))
                row = list(standings_from(web, root))
                self.assertEqual(row, [by_number[number] for number in range(len(known))])
                for number, purses in by_number.items():
                    self.assertEqual(standing_at(web, number, root), purses)
                    self.assertEqual(next_standing(web, purses, root), by_number.get(number + 1))
                self.assertEqual(marked_of(web, by_number[0], root), (0,) * len(web[1]))

    def test_edges(self):
        for size in (1, 3):
            web, purses = (size, ()), (0,) * size
            self.assertEqual(all_standings(web), (purses,))
            self.assertEqual(list(standings_from(web, size - 1)), [purses])
            self.assertEqual((number_of(web, purses, 0), standing_at(web, 0, 0)), (0, purses))
            self.assertIsNone(next_standing(web, purses, 0))
            with self.assertRaises(NotUsable) as caught:
                standing_at(web, 1, 0)
            self.assertEqual((caught.exception.word, caught.exception.at), ("number", -1))
        web = (2, ((0, 1, 399),))
        self.assertEqual(all_standings(web), tuple((many, 399 - many) for many in range(400)))
        self.assertEqual(len(list(standings_from(web, 1))), 400)

    def test_generators_wait(self):
        """Nothing is raised before the first one is asked for."""
        made = standings_from(ROW, 3)
        with self.assertRaises(NotUsable) as caught:
            next(made)
        self.assertEqual((caught.exception.word, caught.exception.at), ("root", -1))

    def test_great_webs(self):
        for seed in range(4):
            web = great_web(seed)
            whole = forest_weight(web)
            _, purses = some_standing(web, seed)
            draw = random.Random(seed)
            for root in (0, 3, 7):
                number = number_of(web, purses, root)
                self.assertTrue(0 <= number < whole)
                self.assertEqual(standing_at(web, number, root), purses)
                after = next_standing(web, purses, root)
                self.assertEqual(number_of(web, after, root), number + 1)
                for number in (0, whole - 1, draw.randrange(whole), draw.randrange(whole)):
                    self.assertEqual(number_of(web, standing_at(web, number, root), root), number)
                self.assertIsNone(next_standing(web, standing_at(web, whole - 1, root), root))
                with self.assertRaises(NotUsable):
                    standing_at(web, whole, root)

    def test_number_by_all_forests(self):
        """On a great web the number is put together from all sets of lines without a ring, by the marks alone."""
        web = great_web(5, size=6, many=9)
        for seed in range(3):
            _, purses = some_standing(web, seed)
            for root in (0, 5):
                marks = marked_of(web, purses, root)
                self.assertEqual(number_of(web, purses, root), number_by_marks(web, marks, root))

    def test_returned_webs(self):
        web = with_line(with_line(beside(great_web(1), great_web(2)), 0, 8, 4), 7, 15, HUGE)
        _, purses = some_standing(web, 3)
        number = number_of(web, purses, 11)
        self.assertEqual(standing_at(web, number, 11), purses)
        self.assertEqual(number_of(web, next_standing(web, purses, 11), 11), number + 1)
        many = (2, ((0, 1, 1),) * 14)
        twice = (4, (*many[1], *[(2, 3, 1)] * 14))
        self.assertEqual(beside(many, many), twice)
        self.assertEqual(len(all_standings(twice)), 225)
        row = list(standings_from(twice, 2))
        self.assertEqual([number_of(twice, purses, 2) for purses in row], list(range(225)))


class Objects(unittest.TestCase):
    def test_forests(self):
        for web in small_webs(40, many=10, seed=53):
            for root in range(web[0]):
                made = Forests(web, root)
                self.assertEqual((made.weight(), made.trees()), (forest_weight(web), tree_weight(web)))
                self.assertEqual(made.told(), (web, root))
                for purses in standings(web):
                    number, marks = made.number(purses), made.marks(purses)
                    self.assertEqual(number, number_of(web, purses, root))
                    self.assertEqual(marks, marked_of(web, purses, root))
                    self.assertEqual((made.standing(number), made.purses_by(marks)), (purses, purses))
                    self.assertEqual(standing_of(web, marks, root), purses)

    def test_equal(self):
        made = Forests(ROW, 1)
        self.assertTrue(made == Forests(web=(3, ((0, 1, 2), (1, 2, 3))), root=1))
        for other in (Forests(ROW, 0), Forests(RING, 1), Forests((3, ROW[1][::-1]), 1), (ROW, 1), None, 1, "x"):
            self.assertFalse(made == other)
            self.assertTrue(made != other)

    def test_wrong(self):
        for web in (None, 3, (), (3,), (0, ()), (True, ()), [3, ()], (2, ((1, 0, 1),)), (2, [])):
            with self.assertRaises(NotUsable) as caught:
                Forests(web, None)
            self.assertEqual((caught.exception.word, caught.exception.at), ("web", -1))


if __name__ == "__main__":
    unittest.main()
