"""Worths, chances and lengths of pieces with two doors; pieces made of others, and made to a worth."""

import random
import unittest
from fractions import Fraction

from naming import Naming
from piecereckon import P, TWO_DOORS, glued_by_hand, lengths, share, small_pieces, table_of, told
from reckon import HUGE, ROW, TWICE, great_web, splits, standings, moved
from howeverled.forestweights import forest_weight
from howeverled.joinedpieces import piece_behind, piece_beside
from howeverled.ladders import ladder_of, row_piece, row_rooms
from howeverled.lengths import length_at, length_table
from howeverled.lengthtables import is_lengths, lengths_alike, mean_length, table_behind, table_beside, weight_by
from howeverled.piecekinds import is_piece
from howeverled.worths import chance_by, chance_of, worth_behind, worth_beside, worth_by, worth_of

PIECES = [*TWO_DOORS, *small_pieces(random.Random(31), 2, 25, 200)]


def worth(piece):
    """The worth, by counting refusals."""
    web, (here, there) = piece
    chance = 1 - share(web, here, there, 1)
    return chance / (1 - chance)


def random_worth(draw):
    return Fraction(draw.randint(0, 30), draw.randint(1, 12))


def random_table(draw, most=6, longest=9):
    found = sorted(draw.sample(range(longest), draw.randint(1, most)))
    return tuple((length, draw.randint(1, 6)) for length in found)


class Worths(Naming, unittest.TestCase):
    def test_by_counting_refusals(self):
        for piece in PIECES:
            web, (here, there) = piece
            chance = 1 - share(web, here, there, 1)
            self.assertEqual(chance_of(piece), told(chance))
            self.assertEqual(chance_of(piece), told(1 - share(web, there, here, 1)))
            self.assertEqual(worth_of(piece), told(worth(piece)))
            joined, alone = table_of(piece)
            self.assertEqual(worth_of(piece), told(Fraction(alone - joined, joined)))

    def test_worth_of_nothing(self):
        for piece in (((2, ()), (0, 1)), ((4, ((0, 1, 1), (2, 3, 2))), (0, 3)), ((3, ((0, 1, 2),)), (1, 2))):
            self.assertEqual((worth_of(piece), chance_of(piece)), ((0, 1), (0, 1)))

    def test_great_lines(self):
        piece = ((3, ((0, 1, HUGE), (1, 2, HUGE - 1))), (0, 2))
        chance = Fraction(HUGE, HUGE + 1) * Fraction(HUGE - 1, HUGE)
        self.assertEqual((chance_of(piece), worth_of(piece)), (told(chance), told(chance / (1 - chance))))

    def test_reckoning(self):
        draw = random.Random(32)
        for _ in range(300):
            one, other = random_worth(draw), random_worth(draw)
            self.assertEqual(worth_beside(told(one), told(other)), told(one + other))
            both = one / (one + 1) * other / (other + 1)
            self.assertEqual(worth_behind(told(one), told(other)), told(both / (1 - both)))
            self.assertEqual(chance_by(told(one)), told(one / (one + 1)))
            self.assertEqual(worth_by(told(one / (one + 1))), told(one))
        self.assertEqual((chance_by((0, 1)), worth_by((0, 1)), worth_behind((0, 1), (5, 1))), ((0, 1), (0, 1), (0, 1)))
        near = (10 ** 12 - 1, 10 ** 12)
        self.assertEqual((worth_by(near), chance_by((10 ** 12 - 1, 1))), ((10 ** 12 - 1, 1), near))
        self.assertEqual(worth_beside((1, 10 ** 12), (1, 10 ** 12)), (1, 5 * 10 ** 11))

    def test_bounds(self):
        for function, word, wrongs in (
            (chance_by, "worth", ((-1, 2), (2, 4), (0, 2), (1, 0), (True, 1), (1, True), [1, 2], 1, None, "1", (1,), (1, 2, 3))),
            (worth_by, "chance", ((-1, 2), (1, 1), (2, 1), (3, 2), (2, 4), (0, 2), (False, 1), [0, 1], 0, None)),
        ):
            for wrong in wrongs:
                self.named(word, function, wrong)


def beside_by_hand(piece, other):
    web, doors = piece
    return (glued_by_hand(other, web, doors), doors)


def behind_by_hand(piece, other):
    """Line by line, the numbers told one by one."""
    (size, lines), (first, second) = piece
    (more, rows), (start, end) = other
    number = {start: second}
    for house in range(more):
        if house != start:
            number[house] = size + len(number) - 1
    added = [(*sorted((number[one], number[two])), room) for one, two, room in rows]
    return ((size + more - 1, (*lines, *added)), (first, number[end]))


class Joined(Naming, unittest.TestCase):
    def test_line_by_line(self):
        for piece in PIECES:
            for other in PIECES:
                for made, by_hand in ((piece_beside, beside_by_hand), (piece_behind, behind_by_hand)):
                    joined = made(piece, other)
                    self.assertEqual(joined, by_hand(piece, other))
                    self.assertIs(is_piece(joined), True)

    def test_told(self):
        self.assertEqual(piece_beside(((3, ((0, 1, 5),)), (2, 0)), (ROW, (0, 2))),
                         ((4, ((0, 1, 5), (2, 3, 2), (0, 3, 3))), (2, 0)))
        self.assertEqual(piece_behind((TWICE, (1, 0)), (ROW, (2, 0))),
                         ((4, ((0, 1, 1), (0, 1, 2), (2, 3, 2), (0, 3, 3))), (1, 2)))

    def test_worths_and_lengths(self):
        """Side by side worths are added, one behind another chances are multiplied; tables go together."""
        draw = random.Random(33)
        done = 0
        while done < 60:
            piece, other = draw.choice(PIECES), draw.choice(PIECES)
            if len(splits(piece[0])) * len(splits(other[0])) > 1500:
                continue
            done += 1
            beside, behind = piece_beside(piece, other), piece_behind(piece, other)
            self.assertEqual(worth_of(beside), told(worth(piece) + worth(other)))
            self.assertEqual(worth_of(behind), worth_behind(worth_of(piece), worth_of(other)))
            self.assertEqual(worth_of(beside), worth_beside(worth_of(piece), worth_of(other)))
            self.assertEqual(lengths(beside), table_beside(lengths(piece), lengths(other)))
            self.assertEqual(lengths(behind), table_behind(lengths(piece), lengths(other)))
            self.assertEqual(worth(beside), Fraction(*worth_of(beside)))
            self.assertEqual(worth(behind), Fraction(*worth_of(behind)))

    def test_great_pieces(self):
        piece, other = (great_web(34), (3, 5)), (great_web(35), (7, 1))
        self.assertEqual(worth_of(piece_beside(piece, other)), worth_beside(worth_of(piece), worth_of(other)))
        self.assertEqual(worth_of(piece_behind(piece, other)), worth_behind(worth_of(piece), worth_of(other)))

    def test_two_doors_are_due(self):
        for wrong in ((ROW, (0,)), (ROW, (0, 1, 2)), None, (), (ROW, ()), (ROW, (1, 1)), (ROW, [0, 1]), ((3, []), (0, 1)), 2):
            for function in (worth_of, chance_of, length_table):
                self.named("piece", function, wrong)
            self.named("piece", length_at, wrong, (2, 0, 3))
            self.named("piece", length_at, wrong, None)
            for function in (piece_beside, piece_behind):
                self.named("piece", function, wrong, P)
                self.named("other", function, P, wrong)
                self.named("piece", function, wrong, None)


def laid_by_hand(worth_told, first, size):
    """The lines between the first end and house 1, as it is told, and the size behind them."""
    whole = worth_told.numerator // worth_told.denominator
    rest = worth_told - whole
    lines = [(*sorted((first, 1)), whole)] if whole >= 1 else []
    if rest == 0:
        return lines, size
    next_worth = 2 * rest.numerator / Fraction(rest.denominator - rest.numerator)
    more, last = laid_by_hand(next_worth, size, size + 1)
    return [*lines, (first, size, 1), *more], last


class Ladders(Naming, unittest.TestCase):
    def test_rows(self):
        draw = random.Random(36)
        for _ in range(60):
            rooms = tuple(draw.randint(1, 4) for _ in range(draw.randint(1, 4)))
            web, doors = row_piece(rooms)
            self.assertEqual((web[0], doors), (len(rooms) + 1, (0, len(rooms))))
            self.assertEqual(web[1], tuple((place, place + 1, room) for place, room in enumerate(rooms)))
            chance = Fraction(1)
            for room in rooms:
                chance *= Fraction(room, room + 1)
            self.assertEqual(chance_of((web, doors)), told(chance))
        self.assertEqual(row_piece((HUGE,) * 12)[1], (0, 12))

    def test_rows_by_chance(self):
        for bottom in range(2, 14):
            for top in range(1, bottom):
                chance = Fraction(top, bottom)
                rooms = row_rooms(told(chance))
                self.assertEqual(rooms, tuple(range(chance.numerator, chance.denominator)))
                self.assertEqual(chance_of(row_piece(rooms)), told(chance))
        self.assertEqual(row_rooms((10 ** 12 - 1, 10 ** 12)), (10 ** 12 - 1,))
        for wrong in ((0, 1), (1, 1), (2, 1), (-1, 2), (2, 4), (1, 0), (True, 2), (1, True), [1, 2], None, "12", 1, (1, 2, 3)):
            self.named("chance", row_rooms, wrong)

    def test_ladders(self):
        for bottom in range(1, 30):
            for top in range(1, 30):
                asked = Fraction(top, bottom)
                piece = ladder_of(told(asked))
                lines, size = laid_by_hand(asked, 0, 2)
                self.assertEqual(piece, ((size, tuple(lines)), (0, 1)))
                self.assertEqual(worth_of(piece), told(asked))
                if len(splits(piece[0])) <= 100:
                    self.assertEqual(worth(piece), asked)

    def test_long_ladders(self):
        for asked in (Fraction(1, 199), Fraction(199), Fraction(99, 101), Fraction(97, 103), Fraction(89, 110), Fraction(3, 197)):
            piece = ladder_of(told(asked))
            self.assertEqual(worth_of(piece), told(asked))
        for wrong in ((0, 1), (-1, 2), (2, 4), (1, 0), (True, 2), (1, True), [1, 2], None, "12", 1, (1, 2, 3)):
            self.named("worth", ladder_of, wrong)


class Lengths(Naming, unittest.TestCase):
    def test_walking_all_stretches(self):
        for piece in PIECES:
            self.assertEqual(length_table(piece), lengths(piece))
            web, (here, there) = piece
            known = standings(web)
            for purses in known:
                length = sum(
                    moved(purses, here, there, coins) in known
                    for coins in range(-sum(purses), sum(purses) + 1)) - 1
                self.assertEqual(length_at(piece, purses), length)

    def test_length_nought_alone(self):
        for piece in (((2, ()), (0, 1)), ((3, ((0, 1, 2),)), (1, 2))):
            table = length_table(piece)
            self.assertEqual(table, ((0, forest_weight(piece[0])),))
            self.assertEqual((mean_length(table), weight_by(table)), ((0, 1), forest_weight(piece[0])))

    def test_great_lengths(self):
        web = (2, ((0, 1, HUGE),))
        self.assertEqual(length_at((web, (1, 0)), (5, HUGE - 5)), HUGE)

    def test_wrong_purses(self):
        for wrong in (None, (), (2, 0), (0, 0, 5), [2, 0, 3], (2, False, 3), (2, 0, 2), 3):
            self.named("purses", length_at, P, wrong)

    def test_what_is_a_table(self):
        for thing in (((0, 1),), ((0, 5), (3, 1)), ((400, 1),), ((1, HUGE), (2, 1), (9, 4))):
            self.assertIs(is_lengths(thing), True)
        for thing in ((), None, [], [(0, 1)], ((0, 0),), ((0, -1),), ((-1, 1),), ((0, True),), ((False, 1),), ((0, 1, 1),),
                      ((0,),), ([0, 1],), ((1, 1), (0, 1)), ((1, 1), (1, 2)), ((0, 1), None), (0, 1), "01", 3, True, ((0, "1"),)):
            self.assertIs(is_lengths(thing), False, thing)
        for piece in PIECES:
            self.assertIs(is_lengths(length_table(piece)), True)

    def test_pair_by_pair(self):
        draw = random.Random(37)
        for _ in range(200):
            one, other = random_table(draw), random_table(draw)
            beside, behind = {}, {}
            for k, c in one:
                for l, d in other:
                    beside[k + l] = beside.get(k + l, 0) + c * d
                    for j in range(k + l + 1):
                        least = min(j, k, l, k + l - j)
                        behind[least] = behind.get(least, 0) + c * d
            self.assertEqual(table_beside(one, other), tuple(sorted(beside.items())))
            self.assertEqual(table_behind(one, other), tuple(sorted(behind.items())))
        self.assertEqual(table_behind(((0, 1),), ((5, 2),)), ((0, 12),))
        self.assertEqual(table_beside(((0, 3),), ((0, 2),)), ((0, 6),))

    def test_long_tables(self):
        one = tuple((length, length + 1) for length in range(0, 400, 10))
        other = tuple((length, 7) for length in range(361, 401))
        beside, behind = table_beside(one, other), table_behind(one, other)
        total = sum(many for _, many in one) * sum(many for _, many in other)
        self.assertEqual(sum(many for _, many in beside), total)
        self.assertEqual(Fraction(*mean_length(beside)), Fraction(*mean_length(one)) + Fraction(*mean_length(other)))
        self.assertEqual(weight_by(behind), weight_by(one) * weight_by(other))
        self.assertEqual([length for length, _ in behind], list(range(391)))
        again = table_behind(beside, beside)
        self.assertEqual(weight_by(again), weight_by(beside) ** 2)

    def test_means_and_weights(self):
        for piece in PIECES:
            table = lengths(piece)
            self.assertEqual(mean_length(table), worth_of(piece))
            self.assertEqual(weight_by(table), len(standings(piece[0])))
        self.assertEqual((mean_length(((0, 1), (3, 2))), weight_by(((0, 1), (3, 2)))), ((2, 1), 9))

    def test_alike(self):
        draw = random.Random(38)
        for _ in range(100):
            table = random_table(draw)
            factor = draw.randint(1, 4)
            other = tuple((length, many * factor) for length, many in table)
            self.assertIs(lengths_alike(table, other), True)
            self.assertIs(lengths_alike(other, table), True)
            self.assertIs(lengths_alike(table, tuple((length + 1, many) for length, many in table)), False)
            self.assertIs(lengths_alike(table, (*table, (99, 1))), False)
            if len(table) > 1:
                self.assertIs(lengths_alike(table, (*other[:-1], (other[-1][0], other[-1][1] + 1))), False)
        self.assertIs(lengths_alike(((0, 2), (1, 4)), ((0, 3), (1, 6))), True)


if __name__ == "__main__":
    unittest.main()
