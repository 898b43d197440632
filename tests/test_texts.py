"""Webs and splits as texts."""

import random
import unittest
from itertools import product

from naming import spoilt
from reckon import HUGE, RING, ROW, TWICE, great_web, small_webs, some_standing, splits
from howeverled.errors import InvalidText, NotUsable
from howeverled.webtexts import limits_line, read_limits, read_web, web_line

WEBS = small_webs(60)


def texts_of(width, most_rows):
    """All right texts with at most four houses, so many rows, and numbers of at most 3 in them."""
    found = []
    for size in range(1, 5):
        ends = [(one, other) for one in range(size) for other in range(one + 1, size)]
        tails = [tail for tail in product(range(4), repeat=width - 2) if sum(tail) > 0]
        rows = [" ".join(str(number) for number in (*pair, *tail)) for pair in ends for tail in tails]
        for many in range(most_rows + 1 if size > 1 else 1):
            found += ["; ".join((str(size), *told)) for told in product(rows, repeat=many)]
    return found


def prefixes(texts):
    """All rows of fields with which some right text begins; with a None behind all fields of one."""
    found = set()
    for text in texts:
        fields = text.split(" ")
        for many in range(len(fields) + 1):
            found.add(tuple(fields[:many]))
        found.add((*fields, None))
    return found


def first_wrong(known, text):
    """The first field that can't stand there, or how many there are."""
    fields = text.split(" ")
    for place in range(len(fields)):
        if tuple(fields[:place + 1]) not in known:
            return place
    return len(fields)


SPOILS = ("", "0", "1", "2", "3", "0;", "1;", "2;", "3;", ";", "00", "01", "+1", "-1", "1.", "x", "1;;", ";1", "1\n")


class Texts(unittest.TestCase):
    def test_there_and_back(self):
        for web in WEBS:
            told = web_line(web)
            rows = [str(web[0])] + ["%d %d %d" % line for line in web[1]]
            self.assertEqual(told, "; ".join(rows))
            self.assertEqual(read_web(told), web)
            for split in splits(web):
                told = limits_line(web, split)
                rows = [str(web[0])]
                rows += ["%d %d %d %d" % (*line[:2], near, line[2] - near) for line, near in zip(web[1], split)]
                self.assertEqual(told, "; ".join(rows))
                self.assertEqual(read_limits(told), (web, split))

    def test_great_numbers(self):
        web = great_web(4)
        split, _ = some_standing(web, 4)
        self.assertEqual(read_web(web_line(web)), web)
        self.assertEqual(read_limits(limits_line(web, split)), (web, split))
        far = (HUGE, ((0, HUGE - 1, 10 ** 200),))
        self.assertEqual(read_web(web_line(far)), far)

    def judged(self, read, known, text):
        """A right text with one field spoilt, left out or put in, cut off or with more behind."""
        for spoil in spoilt(text, SPOILS):
            right = tuple([*spoil.split(" "), None]) in known
            if right:
                self.assertEqual(self.told(read(spoil)), spoil)
                continue
            with self.assertRaises(InvalidText) as caught:
                read(spoil)
            self.assertEqual((caught.exception.line, caught.exception.field), (0, first_wrong(known, spoil)), spoil)

    def told(self, value):
        """What was read, as a text again."""
        return web_line(value) if isinstance(value[0], int) else limits_line(*value)

    def test_spoilt_webs(self):
        texts = texts_of(3, 3)
        known = prefixes(texts)
        draw = random.Random(7)
        for text in draw.sample([text for text in texts if len(text.split(" ")) <= 7], 120):
            self.judged(read_web, known, text)

    def test_spoilt_limits(self):
        texts = texts_of(4, 2)
        known = prefixes(texts)
        draw = random.Random(8)
        for text in draw.sample([text for text in texts if len(text.split(" ")) <= 5], 60):
            self.judged(read_limits, known, text)

    def test_told_fields(self):
        for text, field in (
            ("", 0), (" ", 0), ("0", 0), ("1;", 0), ("-1", 0), ("x", 0), ("01", 0), ("3;;", 0), ("3,", 0), (";", 0),
            ("2 ", 1), ("2 0 1 1", 1), ("2;", 1), ("2; ", 1), ("2; 1", 1), ("2; 0;", 1), ("2; 00", 1),
            ("2; 0", 2), ("2; 0 0", 2), ("2; 0 2", 2), ("2; 0 1;", 2), ("2; 0 1", 3), ("2; 0 1 0", 3),
            ("2; 0 1 -1", 3), ("2; 0 1 02", 3), ("2; 0 1 1;", 4), ("2; 0 1 1; ", 4), ("2; 0 1 1 ", 4),
            ("2; 0 1 1 0 1 1", 4), ("2; 0 1 1; 1", 4), ("2;  0 1 1", 1), ("2 ; 0 1 1", 1), ("\n2", 0), ("2\n", 0),
            ("5; 3 4 1; 4", 4), ("5; 3 3", 2), ("2; 0 1 1\n", 3),
        ):
            with self.assertRaises(InvalidText) as caught:
                read_web(text)
            self.assertEqual((caught.exception.line, caught.exception.field), (0, field), text)
        for text, field in (
            ("", 0), ("1;", 0), ("2; 0 1", 3), ("2; 0 1 0", 4), ("2; 0 1 0 0", 4), ("2; 0 1 0 00", 4),
            ("2; 0 1 0 0;", 4), ("2; 0 1 1;", 3), ("2; 0 1 1 0;", 5), ("2; 0 1 1 0 0", 5), ("2; 0 1 01 0", 3),
        ):
            with self.assertRaises(InvalidText) as caught:
                read_limits(text)
            self.assertEqual((caught.exception.line, caught.exception.field), (0, field), text)

    def test_right_texts(self):
        self.assertEqual(read_web("1"), (1, ()))
        self.assertEqual(read_limits("40"), ((40, ()), ()))
        self.assertEqual(read_limits("2; 0 1 0 1; 0 1 2 0"), ((2, ((0, 1, 1), (0, 1, 2))), (0, 2)))
        self.assertEqual(web_line((1, ())), "1")
        self.assertEqual(limits_line((3, ()), ()), "3")
        self.assertEqual([read_web(web_line(web)) for web in (RING, ROW, TWICE)], [RING, ROW, TWICE])

    def test_no_string(self):
        for read in (read_web, read_limits):
            for thing in (None, 3, True, ("3",), [], ()):
                with self.assertRaises(NotUsable) as caught:
                    read(thing)
                self.assertEqual((caught.exception.word, caught.exception.at), ("text", -1))
            self.assertEqual(read(text="2")[0] in (2, (2, ())), True)


if __name__ == "__main__":
    unittest.main()
