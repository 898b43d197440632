"""Claims: what is one, at which standings they hold, and their texts."""

import random
import unittest

from reckon import HUGE, RING, ROW, great_web, lots, moved, slack, small_webs, some_standing, standings
from howeverled.claimkinds import is_claim
from howeverled.claims import claim_count, claim_share, claims_alike, claims_apart, holds_at
from howeverled.claimtexts import claim_line, read_claim
from howeverled.errors import InvalidText, NotUsable
from howeverled.mosts import most_of
from howeverled.quotients import quotient_of
from howeverled.shareclasses import Shares

WEBS = small_webs(40, many=20, seed=71)


def random_claim(draw, size, depth=0):
    words = ["shut", "holds"] + ["pays"] * (size > 1) + ["not", "both", "either"] * (depth < 3)
    word = draw.choice(words)
    if word == "shut":
        return (word, draw.choice(lots(size)))
    if word == "holds":
        return (word, draw.randrange(size), draw.choice((0, 1, 2, 3, 11, HUGE)))
    if word == "pays":
        return (word, *draw.sample(range(size), 2), draw.choice((1, 1, 2, 3, 10, HUGE)))
    parts = [random_claim(draw, size, depth + 1) for _ in range(1 if word == "not" else 2)]
    return (word, *parts)


def plain_claims(web):
    size = web[0]
    found = [("shut", lot) for lot in lots(size)]
    found += [("holds", house, many) for house in range(size) for many in range(5)]
    found += [("pays", one, other, coins) for one in range(size) for other in range(size) if one != other
              for coins in (1, 2, 3, 4)]
    return found


def holds(web, known, purses, claim):
    """By all standings and slacks."""
    word = claim[0]
    if word == "pays":
        return moved(purses, *claim[1:]) in known
    if word == "shut":
        return slack(web, purses, claim[1]) == 0
    if word == "holds":
        return purses[claim[1]] >= claim[2]
    told = [holds(web, known, purses, part) for part in claim[1:]]
    if word == "not":
        return not told[0]
    return told[0] and told[1] if word == "both" else told[0] or told[1]


def line(claim):
    """The line, by the words of the document."""
    if claim[0] == "shut":
        return " ".join(["shut", str(len(claim[1])), *map(str, claim[1])])
    return " ".join([claim[0], *[line(part) if isinstance(part, tuple) else str(part) for part in claim[1:]]])


def can_stand(size, fields):
    """Each sequence of fields is told by its first fault alone: the place, None if it is one claim."""
    places = iter(range(len(fields) + 1))

    class Fault(Exception):
        pass

    def number(least, bound):
        place = next(places)
        if place == len(fields):
            raise Fault(place)
        text = fields[place]
        if not text.isascii() or not text.isdigit() or str(int(text)) != text:
            raise Fault(place)
        if int(text) < least or (bound is not None and int(text) >= bound):
            raise Fault(place)
        return place, int(text)

    def claim(depth):
        place = next(places)
        if place == len(fields):
            raise Fault(place)
        word = fields[place]
        if word == "pays":
            _, house = number(0, size)
            place, there = number(0, size)
            if there == house:
                raise Fault(place)
            number(1, None)
        elif word == "shut":
            _, many = number(0, size + 1)
            least = 0
            for _ in range(many):
                _, house = number(least, size)
                least = house + 1
        elif word == "holds":
            number(0, size)
            number(0, None)
        elif word in ("not", "both", "either") and depth < 3:
            for _ in range(1 if word == "not" else 2):
                claim(depth + 1)
        else:
            raise Fault(place)

    try:
        claim(0)
        place = next(places)
        return None if place == len(fields) else place
    except Fault as fault:
        return fault.args[0]


def nested(depth, word="not"):
    claim = ("holds", 0, 1)
    for _ in range(depth):
        claim = ("not", claim) if word == "not" else (word, claim, ("shut", ()))
    return claim


class Kinds(unittest.TestCase):
    def test_right(self):
        draw = random.Random(1)
        for size in (1, 2, 3, 5):
            for _ in range(200):
                self.assertIs(is_claim(size, random_claim(draw, size)), True)
        for claim in (("shut", ()), ("shut", (0, 1, 2)), ("holds", 2, 0), ("holds", 0, 10 ** 60), ("pays", 2, 0, 1)):
            self.assertIs(is_claim(3, claim), True)

    def test_wrong(self):
        for claim in (("holds", 0, True), ("holds", True, 0), ("holds", 3, 0), ("holds", -1, 0), ("holds", 0, -1), ("holds", 0),
                      ("holds", 0, 1, 2), ["holds", 0, 1], ("hold", 0, 1), ("Holds", 0, 1), ("holds ", 0, 1), ("", 0, 1), (), None,
                      0, "holds", ("pays", 0, 1, 0), ("pays", 0, 0, 1), ("pays", 0, 3, 1), ("pays", 0, 1), ("pays", 0, 1, "1"),
                      ("pays", False, 1, 1), ("pays", 0, True, 1), ("pays", 0, 1, True), ("shut", (1, 0)), ("shut", (0, 0)),
                      ("shut", [0]), ("shut", 0), ("shut", (True,)), ("shut", (3,)), ("shut",), ("shut", 0, 1), ("not",),
                      ("not", ("shut", ()), ("shut", ())), ("both", ("shut", ())), ("either", ("shut", ()), ()),
                      ("both", ("shut", ()), ("shut", (3,))), (None, ("shut", ())), (["not"], ("shut", ())),
                      (("not",), ("shut", ())), ("both", ("shut", ()), ("shut", ()), ("shut", ()))):
            self.assertIs(is_claim(3, claim), False, claim)
        self.assertIs(is_claim(1, ("pays", 0, 0, 1)), False)

    def test_depth(self):
        for word in ("not", "both", "either"):
            for depth in range(6):
                self.assertIs(is_claim(3, nested(depth, word)), depth <= 3)
        self.assertIs(is_claim(3, ("both", ("shut", ()), nested(2))), True)
        self.assertIs(is_claim(3, ("both", ("shut", ()), nested(3))), False)


class Holding(unittest.TestCase):
    def test_plain_claims(self):
        for web in WEBS:
            known = standings(web)
            for claim in plain_claims(web):
                told = [holds(web, known, purses, claim) for purses in known]
                self.assertEqual([holds_at(web, purses, claim) for purses in known], told)
                self.assertEqual(claim_count(web, claim), sum(told))

    def test_nested_claims(self):
        draw = random.Random(2)
        for web in WEBS:
            known = standings(web)
            for _ in range(12):
                claim, other = random_claim(draw, web[0]), random_claim(draw, web[0])
                mine = [purses for purses in sorted(known) if holds(web, known, purses, claim)]
                theirs = [purses for purses in sorted(known) if holds(web, known, purses, other)]
                for purses in known:
                    self.assertIs(holds_at(web, purses, claim), purses in mine)
                self.assertEqual(claim_count(web, claim), len(mine))
                self.assertEqual(claim_share(web, claim), quotient_of(len(mine), len(known)))
                self.assertEqual(Shares(web).claim(claim), quotient_of(len(mine), len(known)))
                apart = [purses for purses in sorted(known) if (purses in mine) != (purses in theirs)]
                self.assertIs(claims_alike(web, claim, other), not apart)
                self.assertEqual(claims_apart(web, claim, other), apart[0] if apart else None)
                twice = ("not", ("not", claim))
                if is_claim(web[0], twice):
                    self.assertIs(claims_alike(web, claim, twice), True)

    def test_great_webs(self):
        for seed in range(3):
            web = great_web(seed)
            _, purses = some_standing(web, seed)
            for one, other in ((0, 7), (3, 4), (6, 1)):
                most = most_of(web, purses, one, other)
                if most > 0:
                    self.assertIs(holds_at(web, purses, ("pays", one, other, most)), True)
                self.assertIs(holds_at(web, purses, ("pays", one, other, most + 1)), False)
            self.assertIs(holds_at(web, purses, ("shut", tuple(range(8)))), True)
            self.assertIs(holds_at(web, purses, ("holds", 2, purses[2])), True)
            self.assertIs(holds_at(web, purses, ("holds", 2, purses[2] + 1)), False)

    def test_edges(self):
        one = (1, ())
        self.assertEqual((claim_count(one, ("shut", (0,))), claim_share(one, ("holds", 0, 1))), (1, (0, 1)))
        self.assertIsNone(claims_apart(one, ("shut", ()), ("holds", 0, 0)))
        self.assertEqual(claims_apart((3, ()), ("shut", ()), ("pays", 0, 1, 1)), (0, 0, 0))


class Texts(unittest.TestCase):
    def test_there_and_back(self):
        draw = random.Random(3)
        for size in (1, 2, 3, 12):
            for _ in range(150):
                claim = random_claim(draw, min(size, 5))
                told = line(claim)
                self.assertEqual(claim_line(size, claim), told)
                self.assertEqual(read_claim(size, told), claim)
        self.assertEqual(claim_line(12, ("shut", (0, 10, 11))), "shut 3 0 10 11")
        self.assertEqual(read_claim(12, "shut 3 0 10 11"), ("shut", (0, 10, 11)))
        self.assertEqual(read_claim(2, "shut 0"), ("shut", ()))
        self.assertEqual(read_claim(2, "holds 1 " + "9" * 100), ("holds", 1, int("9" * 100)))

    def wrong(self, size, text, field):
        with self.assertRaises(InvalidText, msg=text) as caught:
            read_claim(size, text)
        self.assertEqual((caught.exception.line, caught.exception.field), (0, field), text)

    def test_spoilt(self):
        """Each field replaced by each of many others, left out, put in twice, and the text cut short."""
        draw = random.Random(4)
        others = ["", "0", "1", "2", "3", "4", "00", "01", "-1", "+1", "1.", "x", "pays", "shut", "holds", "not", "both",
                  "either", "Not", "nots", "1\n", "True", "9" * 40]
        for size in (1, 2, 3, 4):
            for _ in range(25):
                fields = line(random_claim(draw, size)).split(" ")
                texts = [fields[:cut] for cut in range(len(fields))] + [[*fields, ""], [*fields, "0"], ["", *fields]]
                for place in range(len(fields)):
                    texts += [[*fields[:place], other, *fields[place + 1:]] for other in others]
                    texts += [[*fields[:place], *fields[place + 1:]], [*fields[:place + 1], *fields[place:]]]
                for spoilt in texts:
                    told = can_stand(size, spoilt or [""])
                    text = " ".join(spoilt)
                    if told is None:
                        self.assertEqual(line(read_claim(size, text)), text)
                    else:
                        self.wrong(size, text, told)

    def test_told_faults(self):
        for text, field in (
            ("", 0), (" ", 0), ("hold 0 4", 0), ("holds", 1), ("holds 3 4", 1), ("holds 0", 2), ("holds 0 04", 2), ("holds 0 4 ", 3),
            ("holds  0 4", 1), ("holds 0 4 5", 3), ("pays 0 0 1", 2), ("pays 0 1 0", 3), ("pays 0 1", 3), ("pays 3 1 1", 1),
            ("shut 4 0 1 2", 1), ("shut 2 1 1", 3), ("shut 2 1 0", 3), ("shut 3 1 2", 4), ("shut 3 1 2 2", 4), ("shut 1", 2),
            ("shut 0 0", 2), ("not", 1), ("both shut 0", 3), ("both shut 0 shut 1 3", 5), ("either shut 0 not shut", 5),
            ("not not not not shut 0", 3), ("not not not both shut 0 shut 0", 3), ("both shut 0 not not not shut 0", 5),
        ):
            self.wrong(3, text, field)
        self.assertEqual(read_claim(3, "not not not shut 0"), nested_shut())
        self.wrong(1, "pays 0 0 1", 2)

    def test_no_string(self):
        for text in (None, 3, True, ("shut", ()), ["shut 0"], ()):
            with self.assertRaises(NotUsable) as caught:
                read_claim(3, text)
            self.assertEqual((caught.exception.word, caught.exception.at), ("text", -1))


def nested_shut():
    return ("not", ("not", ("not", ("shut", ()))))


class Apart(unittest.TestCase):
    def test_first_of_two(self):
        """Of two wrong claims the first one is named."""
        for first, second, word in ((None, None, "claim"), (("shut", ()), None, "other"), (None, ("shut", ()), "claim")):
            for function in (claims_alike, claims_apart):
                with self.assertRaises(NotUsable) as caught:
                    function(RING, first, second)
                self.assertEqual((caught.exception.word, caught.exception.at), (word, -1))
        with self.assertRaises(NotUsable) as caught:
            holds_at(ROW, (2, 0, 4), None)
        self.assertEqual(caught.exception.word, "purses")


if __name__ == "__main__":
    unittest.main()
