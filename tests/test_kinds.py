"""Kinds of values, and the checker of webs."""

import unittest

from reckon import RING, ROW, TWICE
from howeverled.errors import InvalidPaper
from howeverled.kinds import (
    is_integer, is_joining, is_lot, is_number, is_purses, is_quotient, is_split, is_web,
)
from howeverled.webchecker import lets_web

ODD = (None, "", "1", (), [], (1,), [1], ((),), True, False)


class Kinds(unittest.TestCase):
    def tells(self, function, right, wrong):
        """function(*arguments) for each of both."""
        for arguments in right:
            self.assertIs(function(*arguments), True, arguments)
        for arguments in wrong:
            self.assertIs(function(*arguments), False, arguments)

    def test_integers(self):
        self.tells(is_integer, [(0,), (-5,), (10 ** 60,)], [(thing,) for thing in ODD])

    def test_numbers(self):
        self.tells(is_number, [(0,), (1,), (10 ** 60,)], [(-1,), (-(10 ** 60),), *[(thing,) for thing in ODD]])

    def test_quotients(self):
        right = [((0, 1),), ((1, 1),), ((-3, 2),), ((10 ** 30, 1),)]
        wrong = [(2, 4), (0, 2), (1, 0), (1, -1), (1, True), (True, 1), [1, 2], (1,), (1, 2, 3), ("1", 2), (0, 0)]
        self.tells(is_quotient, right, [(thing,) for thing in (*wrong, *ODD)])

    def test_lots(self):
        right = [(3, ()), (3, (0,)), (3, (0, 2)), (3, (0, 1, 2)), (1, (0,))]
        wrong = [(2, 0), (0, 0), (0, 3), (-1, 0), (0, True), (False, 1), [0, 2], ((0,),), (None,), "01", (0, "1")]
        self.tells(is_lot, right, [(3, thing) for thing in wrong])

    def test_purses(self):
        right = [(1, (0,)), (3, (0, 5, 10 ** 60))]
        wrong = [(), (1, 2), (1, 2, 3, 4), [1, 2, 3], (1, 2, -1), (1, 2, True), (1, 2, None), 3]
        self.tells(is_purses, right, [(3, thing) for thing in wrong])

    def test_joinings(self):
        right = [(0, ()), (1, (0,)), (3, (0, 1, 0)), (3, (0, 0, 0)), (3, (0, 1, 2)), (4, (0, 1, 1, 0))]
        wrong = [(), (0, 0), (0, 1, 2, 3), (0, 0, 1), (1, 1, 2), (0, 2, 2), (0, -1, 2), (0, 1, True), [0, 1, 2],
                 (False, 1, 2), (0, 1, 3), (None, 1, 2), 0]
        self.tells(is_joining, right, [(3, thing) for thing in wrong] + [(0, (0,)), (0, 0), (0, [])])

    def test_splits(self):
        right = [(ROW, (0, 0)), (ROW, (2, 3)), ((1, ()), ()), ((4, ()), ()), (TWICE, (1, 1))]
        wrong = [(3, 0), (0, 4), (-1, 0), (0,), (0, 0, 0), [0, 0], (True, 0), (0, None), (), 5]
        self.tells(is_split, right, [(ROW, thing) for thing in wrong] + [((1, ()), (0,)), ((1, ()), [])])

    def test_webs(self):
        right = [RING, ROW, TWICE, (1, ()), (60, ()), (2, ((0, 1, 10 ** 40),)), (10 ** 9, ((0, 10 ** 8, 1),))]
        wrong = [thing for thing, _ in WRONG_WEBS]
        self.tells(is_web, [(thing,) for thing in right], [(thing,) for thing in wrong])


WRONG_WEBS = (
    (None, ("shape", -1)),
    ((), ("shape", -1)),
    ((2,), ("shape", -1)),
    ((2, (), ()), ("shape", -1)),
    ([2, ()], ("shape", -1)),
    ("ab", ("shape", -1)),
    (True, ("shape", -1)),
    ((0, ()), ("size", -1)),
    ((-1, ()), ("size", -1)),
    ((True, ()), ("size", -1)),
    (("2", None), ("size", -1)),
    ((2, []), ("lines", -1)),
    ((2, None), ("lines", -1)),
    ((2, ((0, 1),)), ("shape", 0)),
    ((2, ((0, 1, 1, 1),)), ("shape", 0)),
    ((2, ([0, 1, 1],)), ("shape", 0)),
    ((2, ((0, 1, 1), None)), ("shape", 1)),
    ((2, ((1, 0, 1),)), ("house", 0)),
    ((2, ((0, 0, 1),)), ("house", 0)),
    ((2, ((0, 2, 1),)), ("house", 0)),
    ((2, ((-1, 1, 1),)), ("house", 0)),
    ((2, ((False, 1, 1),)), ("house", 0)),
    ((2, ((0, True, 1),)), ("house", 0)),
    ((2, (("0", 1, 0),)), ("house", 0)),
    ((1, ((0, 1, 1),)), ("house", 0)),
    ((2, ((0, 1, 0),)), ("room", 0)),
    ((2, ((0, 1, True),)), ("room", 0)),
    ((2, ((0, 1, -1),)), ("room", 0)),
    ((2, ((0, 1, 1), (0, 1, None))), ("room", 1)),
    # the faults of one line come ahead of those of the next one
    ((3, ((0, 1, 0), (2, 1, 1), (0, 1))), ("room", 0)),
    ((3, ((0, 1, 1), (2, 1, 0), (0, 1))), ("house", 1)),
    ((3, ((0, 1, 1), (1, 2, 1), (0, 1))), ("shape", 2)),
)


class Checker(unittest.TestCase):
    def test_right_webs(self):
        for web in (RING, ROW, TWICE, (1, ()), (99, ())):
            many = lets_web(web)
            self.assertEqual(many, len(web[1]))
            self.assertIs(type(many), int)

    def test_wrong_webs(self):
        for thing, told in WRONG_WEBS:
            with self.assertRaises(InvalidPaper) as caught:
                lets_web(thing)
            self.assertEqual((caught.exception.word, caught.exception.at), told, thing)


if __name__ == "__main__":
    unittest.main()
