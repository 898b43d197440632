"""Joinings."""

import unittest
from itertools import product

from howeverled.joinings import blocks_of, joined_with, joining_of, joinings_of
from howeverled.kinds import is_joining


class Joinings(unittest.TestCase):
    def test_all_joinings(self):
        for many, count in enumerate((1, 1, 2, 5, 15, 52)):
            told = joinings_of(many)
            self.assertIs(type(told), tuple)
            self.assertEqual(len(told), count)
            self.assertEqual(list(told), [one for one in product(range(many), repeat=many) if is_joining(many, one)])

    def test_blocks_there_and_back(self):
        for many in range(6):
            for joining in joinings_of(many):
                blocks = blocks_of(many, joining)
                self.assertEqual([block[0] for block in blocks], sorted(set(joining)))
                for block in blocks:
                    self.assertEqual({joining[place] for place in block}, {block[0]})
                    self.assertEqual(tuple(sorted(block)), block)
                self.assertEqual(joining_of(many, blocks), joining)
                self.assertEqual(joining_of(many, blocks[::-1]), joining)

    def test_joined_with(self):
        for one, other in product(joinings_of(4), repeat=2):
            both = [
                joining for joining in joinings_of(4)
                if all(joining[place] == joining[least] for part in (one, other) for place, least in enumerate(part))
            ]
            most = max(len(set(joining)) for joining in both)
            finest = [joining for joining in both if len(set(joining)) == most]
            self.assertEqual([joined_with(4, one, other)], finest)
        self.assertEqual(joined_with(0, (), ()), ())

    def test_sixteen(self):
        apart = tuple(range(16))
        pairs = tuple(place - place % 2 for place in range(16))
        shifted = (0, *[place - 1 + place % 2 for place in range(1, 16)])
        self.assertEqual(joined_with(16, apart, pairs), pairs)
        self.assertEqual(joined_with(16, pairs, shifted), (0,) * 16)
        self.assertEqual(joining_of(16, tuple((place,) for place in reversed(range(16)))), apart)


if __name__ == "__main__":
    unittest.main()
