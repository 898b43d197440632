"""Door tables, and pieces in the place of others: alike, parted, and what tells them apart."""

import random
import unittest
from fractions import Fraction
from itertools import permutations

from naming import Naming
from piecereckon import (
    P, TWO_DOORS, glued_by_hand, joined_doors, joinings, lengths, refusals, share, small_pieces, table_of, told, weight)
from reckon import HUGE, RING, ROW, TWICE, great_web, random_web, splits, standings
from howeverled.doortables import door_table, factor_of, glued_weight, is_table
from howeverled.errors import InvalidPaper
from howeverled.forestweights import forest_weight
from howeverled.gluing import glued
from howeverled.joinedpieces import piece_behind
from howeverled.pairshares import refused_share
from howeverled.partings import lets_parting, parted_web, parting_of
from howeverled.swaps import alike_always, alike_one, first_apart

ONE_DOOR = (((1, ()), (0,)), (ROW, (1,)), ((3, ()), (2,)))
MORE_DOORS = ((RING, (0, 1, 2)), (ROW, (2, 0, 1)), ((3, ()), (0, 1, 2)), ((4, ()), (3, 2, 1, 0)),
              ((4, ((0, 1, 1), (1, 2, 2), (2, 3, 3), (0, 3, 1))), (0, 1, 2, 3)),
              ((5, ((0, 4, 1), (1, 4, 2), (2, 4, 1), (3, 4, 3))), (3, 1, 2, 0)))


def some_pieces(seed, many=12):
    draw = random.Random(seed)
    found = [*ONE_DOOR, *TWO_DOORS, *MORE_DOORS]
    for doors in (1, 2, 3, 4):
        found += small_pieces(draw, doors, many)
    return found


class Tables(unittest.TestCase):
    def test_own_tables(self):
        for piece in some_pieces(1):
            table = door_table(piece)
            self.assertEqual(table, table_of(piece))
            self.assertIs(is_table(len(piece[1]), table), True)

    def test_what_is_no_table(self):
        for many, right in ((1, (5,)), (2, (1, 1)), (3, (1, 2, 3, 4, 5)), (4, tuple(range(1, 16)))):
            self.assertIs(is_table(many, right), True)
            for thing in (right[:-1], (*right, 1), list(right), (*right[:-1], 0), (*right[:-1], -1), (*right[:-1], True),
                          (*right[:-1], "1"), (*right[:-1], None), (*right[:-1], (1,)), (), None, 3, "1", True, (right,)):
                self.assertIs(is_table(many, thing), False, (many, thing))

    def test_from_one_door_to_four(self):
        for many, length in ((0, 1), (5, 52), (-1, 1)):
            self.assertIs(is_table(many, (1,) * length), False)

    def test_factors(self):
        draw = random.Random(2)
        for _ in range(200):
            table = tuple(draw.randint(1, 9) for _ in range(draw.randint(1, 5)))
            factor = Fraction(draw.randint(1, 6), draw.choice([1, 1, 2, 3]))
            other = tuple(entry * factor for entry in table)
            if all(entry.denominator == 1 for entry in other):
                other = tuple(int(entry) for entry in other)
                self.assertEqual(factor_of(table, other), told(factor))
                if len(table) > 1:
                    place = draw.randrange(len(table))
                    spoilt = other[:place] + (other[place] + 1,) + other[place + 1:]
                    self.assertIsNone(factor_of(table, spoilt))
            self.assertIsNone(factor_of(table, (*table, table[0])))
            self.assertIsNone(factor_of((*table, 1), table))
        self.assertEqual(factor_of((2, 4), (3, 6)), (3, 2))
        self.assertEqual(factor_of((HUGE, 1), (HUGE * HUGE, HUGE)), (HUGE, 1))
        self.assertIsNone(factor_of((1, 1), (1, 2)))

    def test_glued_weights(self):
        draw = random.Random(3)
        done = 0
        while done < 60:
            doors = draw.randint(1, 4)
            piece = small_pieces(draw, doors, 1, 60)[0]
            other = random_web(draw, draw.randint(doors, 5), draw.randint(0, 5), 2)
            places = tuple(draw.sample(range(other[0]), doors))
            whole = glued_by_hand(piece, other, places)
            if len(splits(whole)) > 2500:
                continue
            done += 1
            known = standings(whole)
            self.assertEqual(glued(piece, other, places), whole)
            self.assertEqual(glued_weight(other, places, door_table(piece)), len(known))
            self.assertEqual(forest_weight(whole), len(known))

    def test_glued_weights_of_any_tables(self):
        """A table that no piece has is taken as it is: by all sets of lines."""
        from reckon import forests
        draw = random.Random(4)
        for _ in range(40):
            other = random_web(draw, draw.randint(1, 5), draw.randint(0, 6), 4)
            places = tuple(draw.sample(range(other[0]), draw.randint(1, min(4, other[0]))))
            kinds = joinings(len(places))
            table = tuple(draw.randint(1, 99) for _ in kinds)
            total = 0
            for _, weight, club in forests(other):
                at = tuple(club[place] for place in places)
                total += weight * table[kinds.index(tuple(at.index(one) for one in at))]
            self.assertEqual(glued_weight(other, places, table), total)

    def test_great_tables(self):
        piece = (great_web(5), (7, 0, 3, 4))
        web = great_web(6)
        table = door_table(piece)
        self.assertEqual(len(table), 15)
        self.assertEqual(glued_weight(web, (1, 2, 6, 0), table), forest_weight(glued(piece, web, (1, 2, 6, 0))))

    def test_four_doors(self):
        """The entries of the joinings with a block of three, less those with two blocks of two, give the first one."""
        draw = random.Random(7)
        for piece in [(great_web(8), (1, 4, 6, 2)), *small_pieces(draw, 4, 20)]:
            table = dict(zip(joinings(4), door_table(piece)))
            sizes = {joining: sorted(joining.count(least) for least in set(joining)) for joining in table}
            threes = sum(table[joining] for joining in table if sizes[joining] == [1, 3])
            twos = sum(table[joining] for joining in table if sizes[joining] == [2, 2])
            self.assertEqual(threes - twos, table[0, 0, 0, 0])


class Alike(Naming, unittest.TestCase):
    def test_alike_one(self):
        found = some_pieces(11, 8)
        tables = [table_of(piece) for piece in found]
        for piece, table in zip(found, tables):
            for other, entries in zip(found, tables):
                right = len(table) == len(entries)
                right = right and all(one * entries[0] == two * table[0] for one, two in zip(table, entries))
                self.assertIs(alike_one(piece, other), right)
            self.assertIs(alike_one(piece, piece), True)

    def test_one_door_is_always_alike(self):
        """It changes no share of refusals outside."""
        for piece in ONE_DOOR:
            self.assertIs(alike_one(piece, (RING, (0,))), True)
            whole = glued(piece, ROW, (1,))
            self.assertEqual(refused_share(whole, 0, 2, 1), refused_share(ROW, 0, 2, 1))

    def test_alike_in_surroundings(self):
        """Pieces with as many doors give the same shares in all surroundings just if they are alike."""
        draw = random.Random(12)
        found = some_pieces(13, 10)
        for _ in range(150):
            piece, other = draw.choice(found), draw.choice(found)
            doors = len(piece[1])
            if doors != len(other[1]) or not alike_one(piece, other):
                continue
            web = random_web(draw, draw.randint(max(2, doors), 6), draw.randint(0, 6), 3)
            places = tuple(draw.sample(range(web[0]), doors))
            mine, theirs = glued(piece, web, places), glued(other, web, places)
            for payer, payee in ((0, 1), (1, 0), (0, web[0] - 1)):
                if payer != payee:
                    self.assertEqual(refused_share(mine, payer, payee, 1), refused_share(theirs, payer, payee, 1))

    def test_alike_always_and_first_apart(self):
        draw = random.Random(14)
        found = [*TWO_DOORS, *small_pieces(draw, 2, 25, 120)]
        for piece in found:
            for other in found:
                shares = [self.shares_of(one) for one in (piece, other)]
                longest = max(len(one) for one in shares)
                mine, theirs = [one + [Fraction(1)] * (longest - len(one)) for one in shares]
                apart = [coins for coins, (one, two) in enumerate(zip(mine, theirs), start=1) if one != two]
                self.assertEqual(first_apart(piece, other), apart[0] if apart else None)
                self.assertIs(alike_always(piece, other), not apart)

    def test_always_alike_in_surroundings(self):
        """Put one behind the other in either sequence they are alike for all coins, whatever is around them."""
        draw = random.Random(15)
        for _ in range(25):
            one, other = small_pieces(draw, 2, 2, 12)
            mine, theirs = piece_behind(one, other), piece_behind(other, one)
            self.assertIs(alike_always(mine, theirs), True)
            self.assertIsNone(first_apart(mine, theirs))
            web = random_web(draw, draw.randint(2, 3), draw.randint(0, 2), 2)
            places = tuple(draw.sample(range(web[0]), 2))
            wholes = [glued_by_hand(piece, web, places) for piece in (mine, theirs)]
            known = [standings(whole) for whole in wholes]
            for payer, payee in permutations(range(web[0]), 2):
                for coins in range(1, 6):
                    shares = [Fraction(refusals(found, payer, payee, coins), len(found)) for found in known]
                    self.assertEqual(shares[0], shares[1])

    def shares_of(self, piece):
        """The shares of refusals of all coins, until all are refused."""
        if piece not in self.memory:
            web, (here, there) = piece
            known = standings(web)
            shares = []
            while not shares or shares[-1] < 1:
                shares.append(Fraction(refusals(known, here, there, len(shares) + 1), len(known)))
            self.memory[piece] = shares
        return self.memory[piece]

    memory = {}

    def test_lines_of_the_same_length_in_turn(self):
        """What is alike by one coin need not be by two."""
        line = ((2, ((0, 1, 1),)), (0, 1))
        self.assertEqual((alike_one(P, line), alike_always(P, line), first_apart(P, line)), (True, False, 2))
        self.assertEqual((alike_always(P, (ROW, (2, 0))), first_apart(P, (ROW, (2, 0)))), (True, None))
        more = ((3, ((0, 1, 1), (1, 2, 9))), (0, 1))
        self.assertEqual((alike_always(line, more), first_apart(line, more)), (True, None))
        self.assertEqual(first_apart(line, ((2, ()), (0, 1))), 1)
        self.assertEqual(lengths(line), ((1, 1),))

    def test_two_doors_are_due(self):
        for wrong in ((ROW, (0,)), (ROW, (0, 1, 2)), None, (), (ROW, ()), (ROW, (0, 0)), (ROW, [0, 1]), 3, ROW, (None, (0, 1))):
            for function in (alike_always, first_apart):
                self.named("piece", function, wrong, P)
                self.named("other", function, P, wrong)
                self.named("piece", function, wrong, wrong)

    def test_any_other_piece(self):
        for wrong in (None, (), (ROW, ()), (ROW, (0, 0)), [ROW, (0,)], (ROW, [0]), ROW, (ROW, (3,)), (ROW, (True,)), "P"):
            self.named("other", alike_one, P, wrong)
            self.named("other", parting_of, P, wrong)
            self.named("other", lets_parting, P, wrong, None)
        for wrong in ((ROW, (0,)), (ROW, (0, 1, 2))):
            self.assertIs(alike_one(P, wrong), False)
            self.named("other", parting_of, P, wrong)
            self.named("other", lets_parting, P, wrong, None)


def three_doors(direct, first, second):
    """Three doors, each two with a direct line, and all with lines to two inner houses."""
    lines = [(0, 1, direct), (0, 2, direct), (1, 2, direct)]
    lines += [(door, 3, first) for door in range(3)] + [(door, 4, second) for door in range(3)]
    return ((5, tuple(lines)), (0, 1, 2))


def parted_by_hand(piece, joining):
    """Line by line."""
    (size, lines), doors = piece
    rows = list(lines)
    for least in sorted(set(joining)):
        block = [doors[place] for place, one in enumerate(joining) if one == least]
        for place in range(len(block) - 1):
            rows.append((min(block[place:place + 2]), max(block[place:place + 2]), 1))
    return (size, tuple(rows))


class Partings(unittest.TestCase):
    def test_parted_webs(self):
        for piece in some_pieces(21):
            for joining in joinings(len(piece[1])):
                self.assertEqual(parted_web(piece, joining), parted_by_hand(piece, joining))
        self.assertEqual(parted_web((ROW, (2, 0, 1)), (0, 0, 0)), (3, (*ROW[1], (0, 2, 1), (0, 1, 1))))

    def test_partings(self):
        found = [piece for piece in some_pieces(22, 9) if len(splits(piece[0])) <= 100]
        parted = 0
        for piece in found:
            for other in found:
                if len(piece[1]) != len(other[1]):
                    continue
                parting = parting_of(piece, other)
                self.assertIs(parting is None, alike_one(piece, other))
                if parting is None:
                    continue
                joining, here, there = parting
                self.assertIn(joining, joinings(len(piece[1])))
                self.assertLess(here, there)
                self.assertNotEqual(joining[here], joining[there])
                shares = lets_parting(piece, other, parting)
                if parted < 300:
                    self.assertEqual(shares, self.counted(piece, other, parting))
                parted += 1
        self.assertGreater(parted, 300)

    def counted(self, piece, other, parting):
        joining, here, there = parting
        return tuple(told(share(parted_by_hand(one, joining), one[1][here], one[1][there], 1)) for one in (piece, other))

    def test_all_papers(self):
        """Each triple, right or not, is judged by its shares."""
        pairs = ((P, (TWICE, (0, 1))), ((RING, (0, 1, 2)), (ROW, (0, 1, 2))), ((ROW, (2, 1, 0)), (ROW, (0, 1, 2))))
        for piece, other in pairs:
            many = len(piece[1])
            for joining in joinings(many):
                for here in range(many):
                    for there in range(many):
                        self.judged(piece, other, (joining, here, there))

    def judged(self, piece, other, paper):
        joining, here, there = paper
        word = None
        if not here < there or joining[here] == joining[there]:
            word = "doors"
        elif len(set(self.counted(piece, other, paper))) == 1:
            word = "alike"
        if word is None:
            self.assertEqual(lets_parting(piece, other, paper), self.counted(piece, other, paper))
        else:
            self.refused(piece, other, paper, word)

    def refused(self, piece, other, paper, word):
        with self.assertRaises(InvalidPaper, msg=paper) as caught:
            lets_parting(piece, other, paper)
        self.assertEqual((caught.exception.word, caught.exception.at), (word, -1), paper)

    def test_words(self):
        other = (TWICE, (0, 1))
        for paper in (None, (), 3, ((0, 1), 0), ((0, 1), 0, 1, 0), [(0, 1), 0, 1], "abc"[:2], True):
            self.refused(P, other, paper, "shape")
        for joining in (None, (), (0,), (0, 1, 2), [0, 1], (1, 0), (0, True), (False, 1), (0, 2), 0, "01"):
            self.refused(P, other, (joining, 0, 1), "joining")
            self.refused(P, other, (joining, None, 7), "joining")
        for here, there in ((1, 0), (0, 0), (0, 2), (-1, 1), (None, 1), (0, True), (False, 1), (0, (1,)), ("0", 1), (2, 3)):
            self.refused(P, other, ((0, 1), here, there), "doors")
            self.refused(P, P, ((0, 1), here, there), "doors")
        self.refused(P, other, ((0, 0), 0, 1), "doors")
        self.refused(P, P, ((0, 1), 0, 1), "alike")
        self.refused(P, ((2, ((0, 1, 1),)), (0, 1)), ((0, 1), 0, 1), "alike")
        self.refused((ROW, (0,)), (ROW, (1,)), ((0,), 0, 0), "doors")

    def test_told_by_all_three_doors_alone(self):
        """Two pieces that differ only with all three doors made one."""
        piece, other = three_doors(10, 3, 1), three_doors(7, 7, 6)
        mine, theirs = table_of(piece), table_of(other)
        apart = [place for place in range(5) if mine[place] * theirs[4] != theirs[place] * mine[4]]
        self.assertEqual(apart, [0])
        self.assertIs(alike_one(piece, other), False)
        parting = parting_of(piece, other)
        shares = lets_parting(piece, other, parting)
        joining, here, there = parting
        for one, told_share in zip((piece, other), shares):
            web = parted_by_hand(one, joining)
            both = joined_doors((web, (here, there)), (0, 0))
            self.assertEqual(told_share, told(Fraction(weight(both), weight(web))))

    def test_great_pieces(self):
        piece, other = (great_web(23), (1, 2, 3, 4)), (great_web(24), (0, 7, 5, 6))
        mine, theirs = lets_parting(piece, other, parting_of(piece, other))
        self.assertNotEqual(mine, theirs)
        self.assertIsNone(parting_of(piece, piece))


if __name__ == "__main__":
    unittest.main()
