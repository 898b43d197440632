"""Pieces as lines of their lengths; pieces as texts and as objects."""

import random
import re
import unittest
from itertools import product

from naming import Naming, spoilt
from piecereckon import P, TWO_DOORS, glued_by_hand, lengths, refusals, small_pieces
from reckon import HUGE, RING, ROW, great_web, moved, purses_at, small_webs, splits, standings
from howeverled.doortables import door_table
from howeverled.errors import InvalidText
from howeverled.forestweights import forest_weight
from howeverled.joinedpieces import piece_behind, piece_beside
from howeverled.lengths import length_table
from howeverled.lengthtables import table_beside
from howeverled.piececlasses import Piece
from howeverled.piecetexts import piece_line, read_piece
from howeverled.running import run_of
from howeverled.swaps import alike_one
from howeverled.throughs import quiet_room, quiet_web, refused_through, total_through
from howeverled.webchanges import with_line
from howeverled.worths import worth_of

PIECES = [*TWO_DOORS, *small_pieces(random.Random(41), 2, 20, 60)]
WEBS = [web for web in small_webs(60, many=25, seed=42) if web[0] > 1]


def drawn_wholes(seed, many, most_splits):
    """Pieces, webs and two of the web's houses to which they are glued, with at most so many splits together."""
    draw = random.Random(seed)
    found = []
    while len(found) < many:
        piece, web = draw.choice(PIECES), draw.choice(WEBS)
        if len(splits(piece[0])) * len(splits(web)) <= most_splits:
            found.append((piece, web, *draw.sample(range(web[0]), 2)))
    return found


class Throughs(Naming, unittest.TestCase):
    def test_counting_in_the_whole(self):
        for piece, web, here, there in drawn_wholes(43, 60, 700):
            table = lengths(piece)
            known = standings(glued_by_hand(piece, web, (here, there)))
            self.assertEqual(total_through(web, here, there, table), len(known))
            self.assertEqual(total_through(web, there, here, table), len(known))
            for payer, payee in product(range(web[0]), repeat=2):
                for coins in (1, 2, 3, 4, 9) if payer != payee else ():
                    told = refused_through(web, here, there, table, payer, payee, coins)
                    self.assertEqual(told, refusals(known, payer, payee, coins))

    def test_tables_of_no_piece(self):
        draw = random.Random(44)
        for web in WEBS[:25]:
            here, there = draw.sample(range(web[0]), 2)
            payer, payee = draw.sample(range(web[0]), 2)
            table = ((0, draw.randint(1, 5)), (1, draw.randint(1, 5)), (3, draw.randint(1, 5)))
            webs = [(many, standings(with_line(web, here, there, length))) for length, many in table]
            self.assertEqual(total_through(web, here, there, table), sum(many * len(known) for many, known in webs))
            for coins in range(1, 7):
                told = refused_through(web, here, there, table, payer, payee, coins)
                self.assertEqual(told, sum(many * refusals(known, payer, payee, coins) for many, known in webs))

    def test_great_webs(self):
        web = great_web(45)
        one, other = (RING, (0, 2)), (great_web(46, 8, 14, 2), (1, 5))
        table = length_table(one)
        whole = glued_by_hand(one, web, (3, 6))
        self.assertEqual(total_through(web, 3, 6, table), forest_weight(whole))
        self.assertEqual(total_through(web, 3, 6, ((0, 1),)), forest_weight(web))
        # Of two linked houses the line between them changes nothing at which one coin more than the bond is refused.
        payer, payee, _ = web[1][0]
        self.assertEqual(refused_through(web, payer, payee, ((0, 1), (400, 2)), payee, payer, HUGE // 2),
                         HUGE // 2 * 3 * refused_through(web, payer, payee, ((7, 1),), payer, payee, 1))
        long = tuple((length, 3) for length in range(361, 401))
        self.assertEqual(total_through(web, 0, 7, long),
                         sum(3 * forest_weight(with_line(web, 0, 7, length)) for length, _ in long))
        self.assertGreater(worth_of(other)[0], 0)

    def test_wrong(self):
        right = {"web": ROW, "here": 0, "there": 2, "table": ((0, 1), (2, 3)), "payer": 0, "payee": 1, "coins": 1}
        wrongs = {
            "here": (None, 3, -1, True, "0", (0,)), "there": (None, 0, 3, True, [2]),
            "table": (None, (), ((0, 0),), ((1, 1), (0, 1)), [(0, 1)], ((0, True),), ((-1, 1),), ((0, 1, 1),)),
            "payer": (None, 3, -1, False, "0"), "payee": (None, 0, 3, True), "coins": (None, 0, -1, True, "1"),
        }
        words = list(wrongs)
        for place, word in enumerate(words):
            for wrong in wrongs[word]:
                self.named(word, refused_through, **{**right, word: wrong})
                if place < 3:
                    self.named(word, total_through, **{**dict(list(right.items())[:4]), word: wrong})
                for later in words[place + 1:]:
                    self.named(word, refused_through, **{**right, word: wrong, later: None})


class Quiet(Naming, unittest.TestCase):
    def test_beside_the_whole(self):
        """At each split of the whole all houses of the web can pay just what they can with the one line."""
        seen = 0
        for piece, web, here, there in drawn_wholes(47, 40, 200):
            whole = glued_by_hand(piece, web, (here, there))
            known = standings(whole)
            inner = standings(piece[0])
            for split in splits(whole):
                own, rest = split[:len(web[1])], self.turned(piece, (here, there), split[len(web[1]):])
                held = purses_at(piece[0], rest)
                room = quiet_room(piece, held)
                quiet = quiet_web(web, here, there, piece, held)
                self.assertEqual(quiet, with_line(web, here, there, room))
                position = max(coins for coins in range(sum(held) + 1) if moved(held, *piece[1], coins) in inner)
                purses = list(purses_at(web, own))
                purses[here] += position
                purses[there] += room - position
                self.compared(web, purses_at(whole, split), known, tuple(purses), self.standings_of(quiet))
                seen += 1
        self.assertGreater(seen, 1000)

    def test_for_ever(self):
        """As long as no inner house pays or is paid, the same calls are answered alike, one after the other."""
        draw = random.Random(51)
        for piece, web, here, there in drawn_wholes(52, 60, 10 ** 6):
            whole = glued_by_hand(piece, web, (here, there))
            split = tuple(draw.randint(0, room) for _, _, room in whole[1])
            own, rest = split[:len(web[1])], self.turned(piece, (here, there), split[len(web[1]):])
            held = purses_at(piece[0], rest)
            quiet = quiet_web(web, here, there, piece, held)
            inner = standings(piece[0])
            position = max(coins for coins in range(sum(held) + 1) if moved(held, *piece[1], coins) in inner)
            purses = list(purses_at(web, own))
            purses[here] += position
            purses[there] += quiet_room(piece, held) - position
            calls = tuple((*draw.sample(range(web[0]), 2), draw.randint(1, 3)) for _ in range(25))
            mine, theirs = run_of(whole, purses_at(whole, split), calls), run_of(quiet, tuple(purses), calls)
            self.assertEqual(mine[0], theirs[0])

    memory = {}

    def standings_of(self, web):
        if web not in self.memory:
            self.memory[web] = standings(web)
        return self.memory[web]

    def turned(self, piece, places, split):
        """The piece's own split: the whole may have its lines the other way about."""
        (_, lines), doors = piece
        at = dict(zip(doors, places))
        own = []
        for (one, other, room), near in zip(lines, split):
            ends = [at.get(house, 100 + house) for house in (one, other)]
            own.append(near if ends[0] < ends[1] else room - near)
        return tuple(own)

    def compared(self, web, purses, known, quiet_purses, quiet_known):
        self.assertIn(quiet_purses, quiet_known)
        for payer, payee in product(range(web[0]), repeat=2):
            for coins in (1, 2, 4) if payer != payee else ():
                mine = moved(purses, payer, payee, coins) in known
                self.assertEqual(mine, moved(quiet_purses, payer, payee, coins) in quiet_known)

    def test_wrong(self):
        right = {"web": RING, "here": 0, "there": 2, "piece": P, "purses": (2, 0, 3)}
        self.assertEqual(quiet_web(**right), RING)
        self.assertEqual(quiet_web(RING, 2, 0, P, (1, 2, 2)), (3, (*RING[1], (0, 2, 2))))
        wrongs = {
            "here": (None, 3, -1, True), "there": (None, 0, 3, True),
            "piece": (None, ROW, (ROW, ()), (ROW, (0,)), (ROW, (0, 1, 2)), (ROW, (0, 0)), (ROW, [0, 2]), [ROW, (0, 2)]),
            "purses": (None, (2, 0), (0, 0, 5), [2, 0, 3], (2, False, 3)),
        }
        words = list(wrongs)
        for place, word in enumerate(words):
            for wrong in wrongs[word]:
                for later in (None, *words[place + 1:]):
                    arguments = {**right, word: wrong, **({later: None} if later else {})}
                    self.named(word, quiet_web, **arguments)
        for piece in wrongs["piece"]:
            self.named("piece", quiet_room, piece, None)
        for purses in wrongs["purses"]:
            self.named("purses", quiet_room, P, purses)


def right_lines():
    """All lines of pieces of at most three houses with at most one line, and of small numbers."""
    found = []
    for size in (1, 2, 3):
        rows = [f"{one} {other} {room}" for one in range(size) for other in range(one + 1, size) for room in (1, 2, 3)]
        for web in (str(size), *[f"{size}; {row}" for row in rows]):
            for many in range(1, size + 1):
                for doors in product(range(size), repeat=many):
                    if len(set(doors)) == many:
                        found.append(f"doors {' '.join(map(str, doors))} | {web}")
    return found


def is_right(text):
    """True for the line of some piece, told by its signs and numbers."""
    if not re.fullmatch(r"doors( (0|[1-9][0-9]*))+ \| [1-9][0-9]*(; (0|[1-9][0-9]*) [1-9][0-9]* [1-9][0-9]*)*", text):
        return False
    head, web = text.split(" | ")
    doors = [int(word) for word in head.split(" ")[1:]]
    size, *rows = web.split("; ")
    ends = [[int(word) for word in row.split(" ")[:2]] for row in rows]
    return len(set(doors)) == len(doors) and max(doors) < int(size) and all(one < other < int(size) for one, other in ends)


ENDINGS = ("", " 77 | 99", " | 99", " 99", " 0 1 1", " 1", *[f" {house} 1" for house in range(4)])


def first_wrong(text):
    """The first field such that no right line begins with all fields up to it, or how many fields there are."""
    fields = text.split(" ")
    for place in range(len(fields)):
        begun = " ".join(fields[:place + 1])
        if not any(is_right(begun + ending) for ending in ENDINGS):
            return place
    return len(fields)


SPOILS = ("", "0", "1", "2", "0;", "1;", "2;", "3;", "|", "doors", "00", "01", "+1", "-1", "x", "2;;", "|;", "1 ", ";")


class Texts(Naming, unittest.TestCase):
    def test_there_and_back(self):
        self.assertEqual(piece_line(P), "doors 0 2 | 3; 0 1 2; 1 2 3")
        self.assertEqual(piece_line(((1, ()), (0,))), "doors 0 | 1")
        draw = random.Random(48)
        great = (great_web(49), (7, 0, 3, 4))
        for piece in (*PIECES, great, *[one for doors in (1, 3, 4) for one in small_pieces(draw, doors, 10)]):
            line = piece_line(piece)
            rows = ["%d %d %d" % row for row in piece[0][1]]
            web = "; ".join([str(piece[0][0]), *rows])
            self.assertEqual(line, f"doors {' '.join(map(str, piece[1]))} | {web}")
            self.assertEqual(read_piece(line), piece)
        for line in right_lines():
            self.assertEqual(piece_line(read_piece(line)), line)
        far = ((HUGE, ((0, HUGE - 1, 10 ** 100),)), (HUGE - 1, 5))
        self.assertEqual(read_piece(piece_line(far)), far)

    def test_spoilt(self):
        """With one field spoilt, left out or put in, cut off or with more behind: the first that no right line has."""
        longer = ["doors 1 0 | 3; 0 1 2; 1 2 3", "doors 2 | 3; 0 2 1; 0 2 1", "doors 0 1 2 3 | 4; 0 3 1"]
        for line in [*right_lines()[::5], *longer]:
            for text in spoilt(line, SPOILS):
                self.judged(text)

    def judged(self, text):
        if is_right(text):
            self.assertEqual(piece_line(read_piece(text)), text)
            return
        with self.assertRaises(InvalidText, msg=text) as caught:
            read_piece(text)
        self.assertEqual((caught.exception.line, caught.exception.field), (0, first_wrong(text)), text)

    def test_told(self):
        for text, field in (
            ("", 0), ("door 0 | 1", 0), ("doors", 1), ("doors ", 1), ("doors |", 1), ("doors | 1", 1), ("doors 0", 2),
            ("doors 0 0 | 1", 2), ("doors 0 1 0 | 2", 3), ("doors 0 00 | 2", 2), ("doors 0 |", 3), ("doors 0 | ", 3),
            ("doors 0 | 0", 3), ("doors 1 | 1", 3), ("doors 0 5 | 5", 4), ("doors 0 5 | 5; 0 1 1", 4), ("doors 0 | 1;", 3),
            ("doors 0 | 2;", 4), ("doors 0 | 2; 0 1", 6), ("doors 0 | 2; 0 1 0", 6), ("doors 0 | 2; 1 1 3", 4),
            ("doors 0 | 2; 0 1 3;", 7), ("doors 0 | 2; 0 1 3 4", 7), ("doors 0 | 1 0", 4), ("doors 0 | | 1", 3),
            ("doors 0 |; 1", 2), ("doors -1 | 1", 1), ("doors 0 |  1", 3), ("Doors 0 | 1", 0), ("doors 1 | 2;", 4),
            ("doors 0 | 3; 0 1 2; 1 2 03", 9), ("doors 0 | 3; 0 1 2; 1 1 3", 8), ("doors\n0 | 1", 0), ("doors 0 | 1\n", 3),
        ):
            with self.assertRaises(InvalidText, msg=text) as caught:
                read_piece(text)
            self.assertEqual((caught.exception.line, caught.exception.field), (0, field), text)
        for wrong in (None, 3, True, ("doors 0 | 1",), ["doors"], P):
            self.named("text", read_piece, wrong)


class Objects(Naming, unittest.TestCase):
    def test_as_the_functions(self):
        draw = random.Random(50)
        for _ in range(60):
            piece, other = draw.choice(PIECES), draw.choice(PIECES)
            mine, theirs = Piece(piece[0], *piece[1]), Piece(other[0], *other[1])
            self.assertEqual((mine.told(), mine.worth(), mine.table(), mine.lengths()),
                             (piece, worth_of(piece), door_table(piece), length_table(piece)))
            for made, told in ((mine.beside(theirs), piece_beside(piece, other)), (mine.behind(theirs), piece_behind(piece, other))):
                self.assertIsInstance(made, Piece)
                self.assertEqual(made.told(), told)
            self.assertEqual((mine.told(), theirs.told()), (piece, other))
            self.assertIs(mine.like(theirs), alike_one(piece, other))
        for doors in (1, 3, 4):
            for web, places in small_pieces(draw, doors, 8):
                made = Piece(web, *places)
                self.assertEqual((made.told(), made.table()), ((web, places), door_table((web, places))))
                self.assertIs(made.like(made), True)
                self.assertIs(made.like(Piece(*P[:1], *P[1])), False)
        self.assertEqual(table_beside(Piece(ROW, 0, 2).lengths(), ((0, 1),)), Piece(ROW, 0, 2).lengths())

    def test_same(self):
        made = Piece(ROW, 0, 2)
        self.assertEqual(made, Piece((3, ((0, 1, 2), (1, 2, 3))), 0, 2))
        for other in (Piece(ROW, 2, 0), Piece(ROW, 0), Piece(RING, 0, 2), Piece(ROW, 0, 2, 1), P, None, "P", made.told(), (0, 2)):
            self.assertFalse(made == other)
            self.assertTrue(made != other)

    def test_wrong(self):
        for web in (None, 3, (), (3,), [3, ()], (0, ()), (True, ()), (3, []), (2, ((1, 0, 1),)), P):
            self.named("web", Piece, web, 0)
            self.named("web", Piece, web)
        for doors in ((), (3,), (-1,), (True,), (None,), ((0, 2),), (0, 0), (0, 1, 0), ("0",), (0, False), ([0],)):
            self.named("doors", Piece, ROW, *doors)
        self.named("doors", Piece, web=ROW)

    def test_two_doors_are_due(self):
        two = Piece(ROW, 0, 2)
        for odd in (Piece(ROW, 1), Piece(ROW, 0, 1, 2)):
            self.named("piece", odd.worth)
            self.named("piece", odd.lengths)
            for other in (two, odd, None, P):
                self.named("piece", odd.beside, other)
                self.named("piece", odd.behind, other)
            self.named("other", two.beside, odd)
            self.named("other", two.behind, odd)
            self.assertIs(two.like(odd), False)
            self.assertIs(odd.like(two), False)
        for other in (None, P, ROW, 3, "P", True, ()):
            for method in (two.beside, two.behind, two.like, Piece(ROW, 1).like):
                self.named("other", method, other)


if __name__ == "__main__":
    unittest.main()
