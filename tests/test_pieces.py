"""Pieces, pieces glued to webs, and doors made one."""

import random
import unittest
from itertools import permutations

from reckon import HUGE, RING, ROW, TWICE, great_web, random_web, small_webs
from howeverled.errors import InvalidPaper, NotUsable
from howeverled.forestweights import forest_weight
from howeverled.gluing import doors_made, glued
from howeverled.joinings import joinings_of
from howeverled.kinds import is_web
from howeverled.piecekinds import inner_of, is_piece, lets_piece, piece_of
from howeverled.webchanges import made_by
from howeverled.webclasses import Web

P = (ROW, (0, 2))


def random_piece(draw, size):
    web = random_web(draw, size, draw.randint(0, 6), 4)
    return (web, tuple(draw.sample(range(size), draw.randint(1, min(4, size)))))


class Kinds(unittest.TestCase):
    def test_right(self):
        draw = random.Random(1)
        for _ in range(60):
            web, doors = random_piece(draw, draw.randint(1, 6))
            self.assertIs(is_piece((web, doors)), True)
            self.assertEqual(piece_of(web, doors), (web, doors))
            inner = tuple(house for house in range(web[0]) if house not in doors)
            self.assertEqual(inner_of((web, doors)), inner)
            self.assertEqual(lets_piece((web, doors)), len(inner))
        self.assertEqual((inner_of(P), inner_of(((1, ()), (0,))), inner_of((ROW, (2, 1, 0)))), ((1,), (), ()))
        self.assertEqual(lets_piece(((8, ()), (7, 6, 5, 4, 3, 2, 1, 0))), 0)

    def test_faults(self):
        for thing, fault in (
            (None, ("shape", -1)), ((), ("shape", -1)), ((ROW,), ("shape", -1)), ((ROW, (0,), 0), ("shape", -1)),
            ([ROW, (0,)], ("shape", -1)), ("ab", ("shape", -1)), ((None, (0,)), ("web", -1)), (((0, ()), (0,)), ("web", -1)),
            (((True, ()), (0,)), ("web", -1)), (((2, ((1, 0, 1),)), None), ("web", -1)), ((list(ROW), (0,)), ("web", -1)),
            ((Web(2), (0,)), ("web", -1)), ((ROW, None), ("doors", -1)), ((ROW, ()), ("doors", -1)), ((ROW, [0, 2]), ("doors", -1)),
            ((ROW, 0), ("doors", -1)), ((ROW, "0"), ("doors", -1)), ((ROW, (3,)), ("door", 0)), ((ROW, (-1, 0)), ("door", 0)),
            ((ROW, (True,)), ("door", 0)), ((ROW, (None, 0)), ("door", 0)), ((ROW, (0, 0)), ("door", 1)),
            ((ROW, (0, 2, 0)), ("door", 2)), ((ROW, (0, 2, 2, 5)), ("door", 2)), ((ROW, (0, False)), ("door", 1)),
            ((ROW, (1, (0,))), ("door", 1)), ((ROW, (1, 0, [])), ("door", 2)), ((ROW, (2, 1, 0, 3)), ("door", 3)),
        ):
            self.assertIs(is_piece(thing), False, thing)
            with self.assertRaises(InvalidPaper, msg=thing) as caught:
                lets_piece(thing)
            self.assertEqual((caught.exception.word, caught.exception.at), fault, thing)


def glued_lines(piece, other, places):
    """Line by line."""
    (size, lines), doors = piece
    number = dict(zip(doors, places))
    inner = [house for house in range(size) if house not in doors]
    for place, house in enumerate(inner):
        number[house] = other[0] + place
    rows = list(other[1])
    for one, other_end, room in lines:
        rows.append((*sorted((number[one], number[other_end])), room))
    return (other[0] + len(inner), tuple(rows))


class Gluing(unittest.TestCase):
    def test_glued(self):
        draw = random.Random(2)
        for _ in range(150):
            piece = random_piece(draw, draw.randint(1, 6))
            other = random_web(draw, draw.randint(len(piece[1]), 6), draw.randint(0, 5), 4)
            for places in list(permutations(range(other[0]), len(piece[1])))[:20]:
                web = glued(piece, other, places)
                self.assertEqual(web, glued_lines(piece, other, places))
                self.assertIs(is_web(web), True)

    def test_told(self):
        self.assertEqual(glued(P, RING, (2, 0)), (4, (*RING[1], (2, 3, 2), (0, 3, 3))))
        self.assertEqual(glued((RING, (2, 0, 1)), (3, ()), (0, 1, 2)), (3, ((1, 2, 1), (0, 1, 1), (0, 2, 1))))
        self.assertEqual(glued(((1, ()), (0,)), TWICE, (1,)), TWICE)
        self.assertEqual(glued((TWICE, (1,)), (1, ()), (0,)), (2, ((0, 1, 1), (0, 1, 2))))
        web = glued((great_web(1), (3, 0, 7, 5)), great_web(2), (6, 1, 0, 4))
        self.assertEqual((web[0], len(web[1]), web[1][:14]), (12, 28, great_web(2)[1]))

    def test_wrong(self):
        for other in (None, (0, ()), [3, ()], (3,), (2, ((1, 0, 1),)), (True, ())):
            with self.assertRaises(NotUsable) as caught:
                glued(P, other, None)
            self.assertEqual((caught.exception.word, caught.exception.at), ("other", -1))
        for places in (None, (), (0,), (0, 1, 2), (1, 1), (0, 3), (-1, 0), (0, True), [0, 1], "01", (0, None)):
            with self.assertRaises(NotUsable) as caught:
                glued(P, RING, places)
            self.assertEqual((caught.exception.word, caught.exception.at), ("places", -1))
        with self.assertRaises(NotUsable):
            glued(P, (1, ()), (0, 0))

    def test_doors_made(self):
        draw = random.Random(3)
        for _ in range(80):
            piece = random_piece(draw, draw.randint(1, 6))
            web, doors = piece
            for joining in joinings_of(len(doors)):
                houses = list(range(web[0]))
                for block in {least for least in joining}:
                    members = [door for door, least in zip(doors, joining) if least == block]
                    for door in members:
                        houses[door] = min(members)
                self.assertEqual(doors_made(piece, joining), made_by(web, tuple(houses)))
        self.assertEqual(doors_made(P, (0, 0)), (2, ((0, 1, 2), (0, 1, 3))))
        self.assertEqual(doors_made(P, (0, 1)), ROW)
        self.assertEqual(doors_made((ROW, (2, 0, 1)), (0, 0, 2)), (2, ((0, 1, 2), (0, 1, 3))))
        self.assertEqual(doors_made((RING, (2, 0, 1)), (0, 1, 0)), (2, ((0, 1, 1), (0, 1, 1))))
        self.assertEqual(doors_made(((2, ((0, 1, HUGE),)), (1, 0)), (0, 0)), (1, ()))

    def test_weights(self):
        """The weights with the doors made one tell the weight of what is glued at all doors of a web without lines."""
        for web in small_webs(10 ** 6, many=10, seed=121):
            if web[0] >= 2:
                piece = (web, (1, 0))
                self.assertEqual(forest_weight(glued(piece, (2, ()), (0, 1))), forest_weight(doors_made(piece, (0, 1))))
                one_more = glued(piece, (2, ((0, 1, 5),)), (1, 0))
                told = forest_weight(web) + 5 * forest_weight(doors_made(piece, (0, 0)))
                self.assertEqual(forest_weight(one_more), told)


if __name__ == "__main__":
    unittest.main()
