"""Marked forests and standings, there and back."""

import random
import unittest
from itertools import product

from reckon import (
    HUGE, RING, ROW, TWICE, clubs, forests, great_web, is_forest, purses_at, small_webs, some_standing, splits,
    standings, told_paper,
)
from howeverled.errors import InvalidPaper
from howeverled.marking import marked_of, standing_of
from howeverled.markkinds import is_marked, lines_of
from howeverled.markpapers import lets_marks, mark_paper
from howeverled.reaches import peel_of
from howeverled.standings import some_split
from howeverled.webchanges import beside, with_line

WEBS = small_webs(100, many=35, seed=41)


def marked_forests(web):
    return [
        marks for marks in splits(web)
        if is_forest(web, [line for line, mark in enumerate(marks) if mark])
    ]


class Marks(unittest.TestCase):
    def test_is_marked(self):
        for web in WEBS:
            right = set(marked_forests(web))
            for marks in splits(web):
                self.assertIs(is_marked(web, marks), marks in right)
                if marks in right:
                    told = tuple(line for line, mark in enumerate(marks) if mark > 0)
                    self.assertEqual(lines_of(web, marks), told)
        for thing in (None, 0, (), (0,), (0, 0, 0), [0, 0], (3, 0), (0, 4), (-1, 0), (True, 0), (0, None), "00"):
            self.assertIs(is_marked(ROW, thing), False, thing)
        self.assertIs(is_marked(TWICE, (1, 1)), False)
        self.assertIs(is_marked((1, ()), ()), True)
        self.assertEqual(lines_of((3, ()), ()), ())

    def test_there_and_back(self):
        for web in WEBS:
            size, lines = web
            known = standings(web)
            right = marked_forests(web)
            self.assertEqual(len(known), len(right))
            for root in range(size):
                order = (root, *[house for house in range(size) if house != root])
                found = {}
                for purses in known:
                    marks = marked_of(web, purses, root)
                    self.assertIs(is_marked(web, marks), True)
                    self.assertEqual(standing_of(web, marks, root), purses)
                    joined = clubs(size, [lines[line] for line in lines_of(web, marks)])
                    self.assertEqual(joined, peel_of(web, purses, order))
                    found[marks] = purses
                self.assertEqual(len(found), len(known))
                for marks in right:
                    self.assertEqual(standing_of(web, marks, root), found[marks])
                    self.assertEqual(marked_of(web, found[marks], root), marks)

    def test_papers(self):
        for web in small_webs(40, many=20, seed=42):
            for purses, root in product(standings(web), range(web[0])):
                told = told_paper(web, purses, root)
                self.assertEqual(mark_paper(web, purses, root), told)
                marks = [0] * len(web[1])
                for line, _, mark in told:
                    marks[line] = mark
                self.assertEqual(marked_of(web, purses, root), tuple(marks))
                self.assertEqual(lets_marks(web, purses, root, told), tuple(marks))

    def test_edges(self):
        self.assertEqual((marked_of((1, ()), (0,), 0), standing_of((1, ()), (), 0)), ((), (0,)))
        self.assertEqual((mark_paper((3, ()), (0, 0, 0), 1), lets_marks((3, ()), (0, 0, 0), 1, ())), ((), ()))
        web = (5, ((1, 3, 2), (1, 3, 1), (0, 4, 1)))
        self.assertEqual(mark_paper(web, (0, 2, 0, 1, 1), 2), ((2, 0, 0), (1, 2, 0), (0, 1, 1)))
        self.assertEqual(standing_of(web, (1, 0, 0), 2), (0, 2, 0, 1, 1))

    def test_great_webs(self):
        for seed in range(8):
            web = great_web(seed)
            size, lines = web
            _, purses = some_standing(web, seed)
            for root in (0, seed % 8, 7):
                marks = marked_of(web, purses, root)
                self.assertIs(is_marked(web, marks), True)
                self.assertEqual(standing_of(web, marks, root), purses)
                order = (root, *[house for house in range(size) if house != root])
                joined = clubs(size, [lines[line] for line in lines_of(web, marks)])
                self.assertEqual(joined, peel_of(web, purses, order))
                self.assertEqual(lets_marks(web, purses, root, mark_paper(web, purses, root)), marks)
            draw = random.Random(seed)
            places = []
            for place in draw.sample(range(len(lines)), len(lines)):
                if is_forest(web, [*places, place]) and draw.random() < 0.8:
                    places.append(place)
            marks = tuple(draw.randint(1, line[2]) if place in places else 0 for place, line in enumerate(lines))
            for root in range(size):
                self.assertEqual(marked_of(web, standing_of(web, marks, root), root), marks)

    def test_returned_webs(self):
        web = with_line(with_line(beside(great_web(1), great_web(2)), 0, 8, 4), 7, 15, HUGE)
        for seed in range(3):
            _, purses = some_standing(web, seed)
            marks = marked_of(web, purses, 11)
            self.assertEqual(standing_of(web, marks, 11), purses)
            self.assertEqual(purses_at(web, some_split(web, purses)), purses)

    def test_all_noughts(self):
        """The marked forest of noughts is that of one standing, the root without a coin."""
        for web in WEBS:
            for root in range(web[0]):
                purses = standing_of(web, (0,) * len(web[1]), root)
                self.assertEqual(purses[root], 0)

    def test_refusals(self):
        right = mark_paper(RING, (2, 1, 0), 0)
        self.assertEqual(right, ((1, 2, 0), (0, 1, 1), (2, 1, 1)))
        for thing, told in (
            (None, ("shape", -1)), (list(right), ("shape", -1)), (1, ("shape", -1)),
            ((None,), ("shape", 0)), (((1, 2),), ("shape", 0)), (((1, 2, 0, 0),), ("shape", 0)),
            (([1, 2, 0],), ("shape", 0)), ((right[0], None), ("shape", 1)),
            (((2, 2, 0), None), ("line", 0)), (((True, 2, 0),), ("line", 0)), (((None, None, None),), ("line", 0)),
            ((right[1], right[0], right[2]), ("line", 0)), ((*right[:2], (1, 1, 1)), ("line", 2)),
            (((1, 1, 0),), ("most", 0)), (((1, None, None),), ("most", 0)), ((right[0], (0, True, 1)), ("most", 1)),
            (((1, 2, 1),), ("mark", 0)), (((1, 2, False),), ("mark", 0)), ((right[0], (0, 1, True)), ("mark", 1)),
            ((right[0], (0, 1, 0), None), ("mark", 1)), ((right[0], right[1], (2, 1, (1,))), ("mark", 2)),
            ((*right, right[2]), ("line", 3)), ((*right, None), ("shape", 3)), ((*right, (1, 2)), ("shape", 3)),
            ((), ("end", -1)), (right[:1], ("end", -1)), (right[:2], ("end", -1)),
        ):
            with self.assertRaises(InvalidPaper) as caught:
                lets_marks(RING, (2, 1, 0), 0, thing)
            self.assertEqual((caught.exception.word, caught.exception.at), told, thing)

    def test_weights(self):
        """As many marked forests as the weight of all forests."""
        for web in WEBS:
            self.assertEqual(len(marked_forests(web)), sum(weight for _, weight, _ in forests(web)))


if __name__ == "__main__":
    unittest.main()
