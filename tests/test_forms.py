"""Shares as forms by one open room, their signs, and coins poured."""

import random
import unittest
from fractions import Fraction
from itertools import combinations, permutations, product

from naming import Naming
from piecereckon import share, told
from reckon import HUGE, ROW, TWICE, great_web, small_webs, splits
from howeverled.bestlines import pair_sum
from howeverled.crossings import chance_of_pair
from howeverled.errors import InvalidPaper
from howeverled.openforms import end_of, is_form, least_room, share_at, share_form, sign_of
from howeverled.pairshares import refused_share
from howeverled.pouring import coins_for, pour_row, pour_star, poured
from howeverled.pourpapers import lets_pouring, pour_paper
from howeverled.pourwebs import row_web, star_web
from howeverled.signtables import sign_table, unfelt
from howeverled.webchanges import with_line

WEBS = [web for web in small_webs(40, many=20, seed=61) if web[0] > 1]


def drawn_forms(seed, many):
    """Forms of few figures and of many; some with noughts, some that stay the same."""
    draw = random.Random(seed)
    found = [(0, 0, 1, 1), (1, 1, 1, 1), (0, 1, 1, 1), (1, 0, 1, 1), (2, 4, 3, 6), (3, 1, 7, 3), (5, 0, 5, 7)]
    for _ in range(many):
        most = draw.choice([3, 9, 40])
        found.append((draw.randint(0, most), draw.randint(0, most), draw.randint(1, most), draw.randint(1, most)))
    return found


class Forms(Naming, unittest.TestCase):
    def test_kind(self):
        for thing in ((0, 0, 1, 1), (3, 1, 7, 3), (HUGE, HUGE, HUGE, HUGE), (9, 9, 1, 1)):
            self.assertIs(is_form(thing), True)
        for thing in (None, (), 3, "abcd", [0, 0, 1, 1], (0, 0, 1), (0, 0, 1, 1, 1), (0, 0, 0, 1), (0, 0, 1, 0), (-1, 0, 1, 1),
                      (0, -1, 1, 1), (0, 0, True, 1), (False, 0, 1, 1), (0, False, 1, 1), (0, 0, 1, True), (0, 0, 1, "1"),
                      ((0, 0, 1, 1),), (0, None, 1, 1), True):
            self.assertIs(is_form(thing), False, thing)

    def test_against_refusals(self):
        """share_at is the share of refusals in the web with the line, for rooms 0 to 6, counted."""
        for web in WEBS:
            pairs = list(permutations(range(web[0]), 2))
            draw = random.Random(62)
            for here, there in draw.sample(pairs, min(3, len(pairs))):
                for payer, payee in draw.sample(pairs, min(4, len(pairs))):
                    form = share_form(web, here, there, payer, payee)
                    self.assertIs(is_form(form), True)
                    for room in range(7):
                        whole = with_line(web, here, there, room)
                        right = share(whole, payer, payee, 1) if len(splits(whole)) <= 150 else None
                        if right is not None:
                            self.assertEqual(share_at(form, room), told(right))
                        self.assertEqual(share_at(form, room), refused_share(whole, payer, payee, 1))

    def test_pairs_changed_about(self):
        for web in (*WEBS, great_web(63)):
            here, there = 1, 0
            payer, payee = 0, web[0] - 1
            form = share_form(web, here, there, payer, payee)
            self.assertEqual(form, share_form(web, there, here, payer, payee))
            self.assertEqual(form, share_form(web, here, there, payee, payer))
            same = share_form(web, here, there, there, here)
            self.assertEqual((same[1], sign_of(same), end_of(same)), (0, -1, (0, 1)))
            self.assertEqual(same, share_form(web, here, there, here, there))

    def test_not_shortened(self):
        web = (4, ((0, 1, 1), (2, 3, 2)))
        self.assertEqual(share_form(web, 0, 2, 1, 3), (6, 4, 6, 6))
        self.assertEqual(share_form(TWICE, 0, 1, 0, 1), (1, 0, 4, 1))
        self.assertEqual(share_form((3, ()), 0, 1, 1, 2), (1, 1, 1, 1))

    def test_wrong(self):
        right = {"web": ROW, "here": 0, "there": 1, "payer": 0, "payee": 2}
        self.assertEqual(share_form(**right), share_form(*right.values()))
        wrongs = {"here": (None, 3, -1, True, "0", (0,)), "there": (None, 0, 3, True), "payer": (None, 3, -1, False, "0"),
                  "payee": (None, 0, 3, True, [1])}
        words = list(wrongs)
        for place, word in enumerate(words):
            for wrong in wrongs[word]:
                for later in (None, *words[place + 1:]):
                    self.named(word, share_form, **{**right, word: wrong, **({later: None} if later else {})})

    def test_room_by_room(self):
        for form in drawn_forms(64, 400):
            a, b, d, e = form
            shares = [Fraction(a + b * room, d + e * room) for room in range(60)]
            self.assertEqual([share_at(form, room) for room in range(60)], [told(one) for one in shares])
            signs = {(one < other) - (one > other) for one, other in zip(shares, shares[1:])}
            self.assertEqual({sign_of(form)}, signs)
            self.assertEqual(end_of(form), told(Fraction(b, e)))
            wishes = [Fraction(0), Fraction(1), Fraction(-1, 3), Fraction(5, 2), Fraction(b, e), *shares[:9], shares[50]]
            for wish in [*wishes, *[(one + other) / 2 for one, other in zip(wishes, wishes[5:])]]:
                self.judged(form, wish, shares)

    def judged(self, form, wish, shares):
        """The least room by trying; beyond all that are tried it is checked on both sides."""
        room = least_room(form, told(wish))
        found = [at for at, one in enumerate(shares) if one <= wish]
        if found:
            self.assertEqual(room, found[0])
        elif room is None:
            # It falls to its end, or it does not fall: either way it stays above the wish.
            self.assertTrue(wish < Fraction(form[1], form[3]) or sign_of(form) >= 0 or wish == Fraction(form[1], form[3]))
        else:
            self.assertGreaterEqual(room, len(shares))
            self.assertLessEqual(Fraction(*share_at(form, room)), wish)
            self.assertGreater(Fraction(*share_at(form, room - 1)), wish)

    def test_great_numbers(self):
        form = (HUGE, 1, HUGE, 7)
        wish = (10 ** 12 - 1, 10 ** 12)
        room = least_room(form, wish)
        self.assertLessEqual(Fraction(*share_at(form, room)), Fraction(*wish))
        self.assertGreater(Fraction(*share_at(form, room - 1)), Fraction(*wish))
        self.assertEqual(share_at(form, HUGE), (1, 4))
        self.assertIsNone(least_room(form, (1, 7)))
        self.assertEqual(least_room((0, 5, 1, 1), (0, 1)), 0)
        self.assertIsNone(least_room((0, 5, 1, 1), (-1, 10 ** 12)))
        self.assertEqual(least_room((0, 5, 1, 1), (7, 3)), 0)
        web = great_web(65)
        form = share_form(web, 2, 5, 0, 7)
        for room in (0, 1, HUGE):
            self.assertEqual(share_at(form, room), refused_share(with_line(web, 2, 5, room), 0, 7, 1))

    def test_wrong_rooms_and_wishes(self):
        for room in (None, -1, True, "1", (1,), [], False):
            self.named("room", share_at, **{"form": (0, 0, 1, 1), "room": room})
        for wish in (None, 1, (2, 4), (0, 2), (1, 0), (1, -1), (True, 2), (1, True), [1, 2], (1, 2, 3), "1/2", (1,)):
            self.named("wish", least_room, **{"form": (0, 0, 1, 1), "wish": wish})
            self.named("wish", coins_for, **{"rooms": (0, 1), "wish": wish})


class Signs(Naming, unittest.TestCase):
    def test_against_forms(self):
        for web in (*WEBS, great_web(66)):
            for here, there in ((0, 1), (web[0] - 1, 0)):
                table = sign_table(web, here, there)
                self.assertEqual([row[:2] for row in table], list(combinations(range(web[0]), 2)))
                for payer, payee, sign in table:
                    shares = [Fraction(*refused_share(with_line(web, here, there, room), payer, payee, 1)) for room in (0, 1, 9)]
                    right = (shares[1] > shares[0]) - (shares[1] < shares[0])
                    self.assertEqual((sign, sign), (right, (shares[2] > shares[1]) - (shares[2] < shares[1])))
                    self.assertIn(sign, (0, -1))
                self.assertEqual(unfelt(web, here, there), tuple(row[:2] for row in table if row[2] == 0))

    def test_told(self):
        self.assertEqual(sign_table(ROW, 0, 1), ((0, 1, -1), (0, 2, -1), (1, 2, 0)))
        self.assertEqual(unfelt((4, ((0, 1, 1), (2, 3, 2))), 1, 0), ((0, 2), (0, 3), (1, 2), (1, 3), (2, 3)))
        self.assertEqual(sign_table((2, ()), 1, 0), ((0, 1, -1),))
        for function in (sign_table, unfelt):
            for arguments, word in (((ROW, 3, 0), "here"), ((ROW, True, None), "here"), ((ROW, None, 0), "here"),
                                    ((ROW, 0, 0), "there"), ((ROW, 1, True), "there"), ((ROW, 0, "1"), "there")):
                self.named(word, function, *arguments)


def laid_one_by_one(rooms, many):
    """The rooms, and the places on which the coins came."""
    now = list(rooms)
    places = []
    for _ in range(many):
        place = min(range(len(now)), key=lambda at: (now[at], at))
        now[place] += 1
        places.append(place)
    return tuple(now), tuple(places)


def chances(rooms):
    return [Fraction(room, room + 1) for room in rooms]


def row_chance(rooms):
    total = Fraction(1)
    for chance in chances(rooms):
        total *= chance
    return total


def star_sum(rooms):
    found = chances(rooms)
    return sum(found, Fraction(0)) + sum((one * other for one, other in combinations(found, 2)), Fraction(0))


def drawn_rooms(draw):
    most = draw.choice([0, 1, 3, 12])
    return tuple(draw.randint(0, most) for _ in range(draw.choice([1, 2, 3, 5, 12])))


class Pouring(Naming, unittest.TestCase):
    def test_one_by_one(self):
        draw = random.Random(71)
        for _ in range(200):
            rooms = drawn_rooms(draw)
            for many in (0, 1, 2, draw.randint(0, 60), 60):
                after, places = laid_one_by_one(rooms, many)
                self.assertEqual(poured(rooms, many), after)
                self.assertEqual(pour_paper(rooms, many), places)
                self.assertEqual(lets_pouring(rooms, places), after)
            self.assertEqual(pour_row(rooms), told(row_chance(rooms)))
            self.assertEqual(pour_star(rooms), told(star_sum(rooms)))

    def test_all_numbers_of_coins(self):
        for rooms in product(range(4), repeat=3):
            for many in range(16):
                self.assertEqual(poured(rooms, many), laid_one_by_one(rooms, many)[0])

    def test_no_other_way_is_better(self):
        draw = random.Random(72)
        for _ in range(12):
            rooms = tuple(draw.randint(0, 4) for _ in range(draw.choice([1, 2, 3])))
            many = draw.randint(0, 6)
            row, star = row_chance(poured(rooms, many)), star_sum(poured(rooms, many))
            for places in product(range(len(rooms)), repeat=many):
                laid = [room + places.count(place) for place, room in enumerate(rooms)]
                self.assertLessEqual(row_chance(laid), row)
                self.assertLessEqual(star_sum(laid), star)

    def test_papers(self):
        """All layings of few coins: let just if each coin lies where least room is; those let give the same two."""
        for rooms in ((0, 2, 0), (1, 1), (3,), (0, 0, 1), (2, 1, 0)):
            for many in range(5):
                for places in product(range(len(rooms)), repeat=many):
                    self.judged(rooms, places)

    def judged(self, rooms, places):
        now = list(rooms)
        for at, place in enumerate(places):
            if now[place] != min(now):
                return self.refused(rooms, places, "least", at)
            now[place] += 1
        after = lets_pouring(rooms, places)
        self.assertEqual(after, tuple(now))
        best = poured(rooms, len(places))
        self.assertEqual((pour_row(after), pour_star(after)), (pour_row(best), pour_star(best)))

    def refused(self, rooms, thing, word, at):
        with self.assertRaises(InvalidPaper, msg=thing) as caught:
            lets_pouring(rooms, thing)
        self.assertEqual((caught.exception.word, caught.exception.at), (word, at), (rooms, thing))

    def test_words(self):
        for thing in (None, [0, 2], "02", 3, True):
            self.refused((0, 2, 0), thing, "shape", -1)
        for place in (3, -1, True, None, "0", (0,), [0], HUGE, False):
            self.refused((0, 2, 0), (place,), "place", 0)
            self.refused((0, 2, 0), (2, 0, place, 5), "place", 2)
            self.refused((0, 2, 0), (1, place), "least", 0)
        self.refused((0, 2, 0), (0, 0), "least", 1)
        self.assertEqual(lets_pouring((0, 2, 0), ()), (0, 2, 0))

    def test_great_numbers(self):
        rooms = (5, HUGE, 0, 7, HUGE - 3, 1)
        after = poured(rooms, HUGE)
        self.assertEqual(sum(after), sum(rooms) + HUGE)
        low = [room for at, room in enumerate(after) if rooms[at] < 10]
        self.assertLessEqual(max(low) - min(low), 1)
        self.assertEqual(after[1], HUGE)
        self.assertEqual(sorted(low, reverse=True), low)
        self.assertEqual(poured((HUGE,), HUGE), (2 * HUGE,))
        self.assertEqual(poured((0,) * 12, 12 * HUGE + 5), (HUGE + 1,) * 5 + (HUGE,) * 7)
        self.assertEqual(poured((HUGE, 0), HUGE), (HUGE, HUGE))
        self.assertEqual(poured((0, HUGE), HUGE + 1), (HUGE + 1, HUGE))
        self.assertEqual(pour_row((HUGE,) * 12), told(Fraction(HUGE, HUGE + 1) ** 12))
        self.assertEqual(pour_star((HUGE,) * 12), told(star_sum((HUGE,) * 12)))

    def test_coins_for(self):
        draw = random.Random(73)
        for _ in range(150):
            rooms = drawn_rooms(draw)[:5]
            wishes = [Fraction(0), Fraction(-3), row_chance(rooms), Fraction(draw.randint(0, 20), 21), Fraction(1, 10 ** 12)]
            many = draw.randint(0, 30)
            wishes.append(row_chance(laid_one_by_one(rooms, many)[0]))
            for wish in wishes:
                if wish < 1:
                    coins = 0
                    while row_chance(laid_one_by_one(rooms, coins)[0]) < wish:
                        coins += 1
                    self.assertEqual(coins_for(rooms, told(wish)), coins)
            for wish in ((1, 1), (2, 1), (10 ** 12, 10 ** 12 - 1)):
                self.assertIsNone(coins_for(rooms, wish))

    def test_coins_for_much(self):
        near = (10 ** 12 - 1, 10 ** 12)
        for rooms in ((0,) * 12, (HUGE, 0, HUGE), (0,), (5, 7, 10 ** 11)):
            coins = coins_for(rooms, near)
            self.assertGreaterEqual(row_chance(poured(rooms, coins)), Fraction(*near))
            self.assertLess(row_chance(poured(rooms, coins - 1)), Fraction(*near))
        self.assertEqual(coins_for((HUGE,) * 12, near), 0)
        self.assertEqual(coins_for((0,), near), 10 ** 12 - 1)

    def test_wrong(self):
        for many in (None, -1, True, "1", (1,), [], False):
            for function in (poured, pour_paper):
                self.named("many", function, (0, 2, 0), many)

    def test_webs(self):
        draw = random.Random(74)
        for _ in range(60):
            rooms = tuple(draw.choice([0, 1, 2, 5, HUGE]) for _ in range(draw.randint(1, 8)))
            places = [place for place, room in enumerate(rooms) if room]
            row, star = row_web(rooms), star_web(rooms)
            self.assertEqual(row, (len(rooms) + 1, tuple((place, place + 1, rooms[place]) for place in places)))
            self.assertEqual(star, (len(rooms) + 1, tuple((0, place + 1, rooms[place]) for place in places)))
            self.assertEqual(pour_row(rooms), chance_of_pair(row, 0, len(rooms)))
            self.assertEqual(pour_star(rooms), pair_sum(star))
        self.assertEqual((row_web((0,)), star_web((0,) * 12)), ((2, ()), (13, ())))


if __name__ == "__main__":
    unittest.main()
