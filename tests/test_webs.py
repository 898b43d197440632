"""Webs, webs made of others, and webs as objects."""

import random
import unittest
from itertools import permutations

from reckon import HUGE, RING, ROW, TWICE, clubs, great_web, kept, lots, small_webs, within
from howeverled.errors import NotUsable
from howeverled.joinings import joinings_of
from howeverled.kinds import is_web
from howeverled.webchanges import beside, kept_to, made_by, made_one, renamed, with_line, without_line
from howeverled.webclasses import Web
from howeverled.webs import bond_of, clubs_of, hangs_together, hold_of, rooms_of, web_of, within_of

WEBS = small_webs(300)


def ordered(one, other, room):
    return (min(one, other), max(one, other), room)


class Webs(unittest.TestCase):
    def test_web_of(self):
        self.assertEqual(web_of(3, (1, 0, 2), (1, 2, 3)), ROW)
        self.assertEqual(web_of(1), (1, ()))
        self.assertEqual(web_of(4), (4, ()))
        for web in WEBS:
            size, lines = web
            self.assertEqual(web_of(size, *lines), web)
            self.assertEqual(web_of(size, *[(other, one, room) for one, other, room in lines]), web)

    def test_web_of_wrong_lines(self):
        wrong = [(0, 0, 1), (0, 3, 1), (-1, 0, 1), (0, 1, 0), (0, 1, -1), (0, 1, True), (True, 2, 1), (0, False, 1),
                 (0, 1), (0, 1, 1, 1), [0, 1, 1], None, 5, "011", (), (0, 1, None), ("0", 1, 1)]
        for line in wrong:
            for ahead in range(3):
                with self.assertRaises(NotUsable) as caught:
                    web_of(3, *[(2, 1, 1)] * ahead, line, (0, 0, 0))
                self.assertEqual((caught.exception.word, caught.exception.at), ("lines", ahead))

    def test_sums(self):
        for web in WEBS:
            size, lines = web
            self.assertEqual(rooms_of(web), sum(room for _, _, room in lines))
            for lot in lots(size):
                self.assertEqual(within_of(web, lot), within(web, lot))
            for house in range(size):
                others = [other for other in range(size) if other != house]
                self.assertEqual(hold_of(web, house), sum(line[2] for line in lines if house in line[:2]))
                self.assertEqual(sum(bond_of(web, house, other) for other in others), hold_of(web, house))
                for other in others:
                    pair = tuple(sorted((house, other)))
                    self.assertEqual(bond_of(web, house, other), sum(line[2] for line in lines if line[:2] == pair))
            self.assertEqual(sum(hold_of(web, house) for house in range(size)), 2 * rooms_of(web))

    def test_houses_that_are_like_rooms(self):
        web = (4, ((0, 1, 3), (0, 3, 2), (2, 3, 1)))
        self.assertEqual([hold_of(web, house) for house in range(4)], [5, 3, 1, 3])
        self.assertEqual((bond_of(web, 1, 3), bond_of(web, 3, 0)), (0, 2))

    def test_clubs(self):
        for web in WEBS:
            size, lines = web
            joining = clubs(size, lines)
            told = tuple(
                tuple(house for house in range(size) if joining[house] == least) for least in sorted(set(joining))
            )
            self.assertEqual(clubs_of(web), told)
            self.assertIs(hangs_together(web), len(told) == 1)
        self.assertEqual(clubs_of((3, ())), ((0,), (1,), (2,)))
        self.assertIs(hangs_together((1, ())), True)

    def test_great_rooms(self):
        web = great_web(3)
        self.assertEqual(rooms_of(web), sum(line[2] for line in web[1]))
        self.assertEqual(hold_of((2, ((0, 1, HUGE), (0, 1, HUGE))), 1), 2 * HUGE)


class Changes(unittest.TestCase):
    def test_kept_to(self):
        for web in WEBS:
            for lot in lots(web[0])[1:]:
                self.assertEqual(kept_to(web, lot), kept(web, lot))
        self.assertEqual(kept_to((3, ()), (2,)), (1, ()))

    def test_without_line(self):
        for web in WEBS:
            for line in range(len(web[1])):
                left = [one for place, one in enumerate(web[1]) if place != line]
                self.assertEqual(without_line(web, line), (web[0], tuple(left)))

    def test_made_one(self):
        for web in WEBS:
            size, lines = web
            for here, there in permutations(range(size), 2):
                low, high = sorted((here, there))
                number = [low if house == high else house - (house > high) for house in range(size)]
                told = [ordered(number[one], number[other], room) for one, other, room in lines
                        if {one, other} != {here, there}]
                self.assertEqual(made_one(web, here, there), (size - 1, tuple(told)))
                same = clubs(size, lines)[here] == clubs(size, lines)[there]
                self.assertEqual(len(clubs_of(web)) - len(clubs_of(made_one(web, here, there))), 0 if same else 1)

    def test_made_by(self):
        for web in WEBS:
            size, lines = web
            for joining in joinings_of(size):
                leasts = sorted(set(joining))
                number = [leasts.index(least) for least in joining]
                told = [ordered(number[one], number[other], room) for one, other, room in lines
                        if number[one] != number[other]]
                self.assertEqual(made_by(web, joining), (len(leasts), tuple(told)))

    def test_with_line(self):
        self.assertEqual(with_line(ROW, 2, 0, 4), (3, ((0, 1, 2), (1, 2, 3), (0, 2, 4))))
        self.assertEqual(with_line(ROW, 0, 2, 0), ROW)
        self.assertEqual(with_line((2, ()), 1, 0, HUGE), (2, ((0, 1, HUGE),)))

    def test_renamed(self):
        for web in WEBS:
            size, lines = web
            for order in permutations(range(size)):
                told = tuple(ordered(order[one], order[other], room) for one, other, room in lines)
                self.assertEqual(renamed(web, order), (size, told))

    def test_beside(self):
        for one, other in zip(WEBS, WEBS[1:]):
            both = beside(one, other)
            self.assertIs(is_web(both), True)
            self.assertEqual(both[0], one[0] + other[0])
            self.assertEqual(kept_to(both, tuple(range(one[0]))), one)
            self.assertEqual(kept_to(both, tuple(range(one[0], both[0]))), other)
            self.assertEqual(both[1][:len(one[1])], one[1])

    def test_returned_webs(self):
        web = beside(great_web(1), great_web(2))
        both = with_line(with_line(web, 15, 0, 5), 3, 9, HUGE)
        self.assertEqual((both[0], len(both[1])), (16, 30))
        self.assertIs(hangs_together(both), True)
        self.assertEqual(bond_of(both, 3, 9), HUGE)
        self.assertEqual(made_one(both, 15, 0)[0], 15)


class Objects(unittest.TestCase):
    def test_methods(self):
        web = Web(3, (1, 0, 2), (1, 2, 3))
        self.assertEqual(web.told(), ROW)
        self.assertEqual((web.bond(1, 0), web.bond(0, 2), web.hold(1)), (2, 0, 5))
        for made, told in (
            (web.kept((1, 2)), kept_to(ROW, (1, 2))),
            (web.merged(2, 0), made_one(ROW, 0, 2)),
            (web.with_new(2, 0, 4), with_line(ROW, 2, 0, 4)),
            (web.with_new(2, 0, 0), ROW),
            (web + Web(1), beside(ROW, (1, ()))),
            (Web(1) + web, beside((1, ()), ROW)),
            (Web(size=2), (2, ())),
        ):
            self.assertIs(type(made), Web)
            self.assertEqual(made.told(), told)
            self.assertEqual(len(made), len(told[1]))
        self.assertEqual(web.told(), ROW)

    def test_equal(self):
        web = Web(3, (1, 0, 2), (1, 2, 3))
        self.assertIs(web == Web(*[3, (0, 1, 2), (2, 1, 3)]), True)
        self.assertIs(web != Web(3, (0, 1, 2), (2, 1, 3)), False)
        others = (Web(3, (0, 1, 2)), Web(3, (1, 2, 3), (0, 1, 2)), Web(4, (0, 1, 2), (1, 2, 3)))
        for other in (*others, ROW, None, 3, "web", []):
            self.assertIs(web == other, False)
            self.assertIs(web != other, True)

    def test_wrong(self):
        for size in (0, -1, True, None, "3", (3,)):
            with self.assertRaises(NotUsable) as caught:
                Web(size, (0, 0, 0))
            self.assertEqual((caught.exception.word, caught.exception.at), ("size", -1))
        with self.assertRaises(NotUsable) as caught:
            Web(2, (0, 1, 1), (0, 2, 1), None)
        self.assertEqual((caught.exception.word, caught.exception.at), ("lines", 1))
        web = Web(*[3, *ROW[1]])
        for call, word in (
            (lambda: web.bond(3, 3), "here"), (lambda: web.bond(0, 0), "there"), (lambda: web.hold(True), "house"),
            (lambda: web.kept(()), "lot"), (lambda: web.kept((2, 1)), "lot"), (lambda: web.merged(-1, 0), "here"),
            (lambda: web.merged(1, 1), "there"), (lambda: web.with_new(0, 0, -1), "there"),
            (lambda: web.with_new(0, 1, -1), "room"), (lambda: web.with_new(None, 1, -1), "here"),
            (lambda: web + ROW, "other"), (lambda: web + 1, "other"), (lambda: web + None, "other"),
        ):
            with self.assertRaises(NotUsable) as caught:
                call()
            self.assertEqual((caught.exception.word, caught.exception.at), (word, -1))
        self.assertEqual(web.told(), ROW)

    def test_added_in_place(self):
        web = first = Web(2, (0, 1, 1))
        web += Web(1)
        self.assertEqual((web.told(), first.told()), ((3, ((0, 1, 1),)), (2, ((0, 1, 1),))))

    def test_many_sums(self):
        draw = random.Random(5)
        for _ in range(40):
            one, other, third = (draw.choice(WEBS) for _ in range(3))
            webs = [Web(web[0], *web[1]) for web in (one, other, third)]
            self.assertEqual((webs[0] + webs[1]) + webs[2], webs[0] + (webs[1] + webs[2]))


if __name__ == "__main__":
    unittest.main()
