"""The printed examples of the document."""

import unittest

from howeverled.batches import net_of, settle, settled
from howeverled.errors import InvalidPaper, InvalidText
from howeverled.forestweights import breadth_of, forest_weight, signed_weight, tree_weight, weights_by_lines
from howeverled.foresttables import frontier_of, tables_of
from howeverled.joinedweights import club_weight, joined_weight, joining_weight
from howeverled.joinings import blocks_of, joined_with, joining_of, joinings_of
from howeverled.kinds import is_joining, is_lot, is_quotient
from howeverled.leading import lead, led_split
from howeverled.ledchecker import follows_rule, lets_leading
from howeverled.marking import marked_of, standing_of
from howeverled.markkinds import is_marked, lines_of
from howeverled.markpapers import mark_paper
from howeverled.momentclasses import Moment
from howeverled.mosts import bar_of, most_of, most_table
from howeverled.quotients import over, plus, quotient_of
from howeverled.reaches import classes_of, payers_of, peel_either, peel_of, reach_of
from howeverled.records import judged_log
from howeverled.rings import led_along
from howeverled.slacks import short_lot, shut_lots, slack_of
from howeverled.spans import span_of, split_holding
from howeverled.splits import all_splits, ends_at, purses_of, turned_over, turned_purses
from howeverled.standings import some_split
from howeverled.turnpapers import lets_turns
from howeverled.webchanges import beside, kept_to, made_by, renamed
from howeverled.webchecker import lets_web
from howeverled.webs import clubs_of, hold_of, within_of
from howeverled.webtexts import limits_line, read_web, web_line

RING = (3, ((0, 1, 1), (0, 2, 1), (1, 2, 1)))
ROW = (3, ((0, 1, 2), (1, 2, 3)))
TWICE = (2, ((0, 1, 1), (0, 1, 2)))


class StageOne(unittest.TestCase):
    def test_kinds(self):
        self.assertEqual((is_lot(3, (0, 2)), is_joining(3, (0, 0, 1))), (True, False))
        self.assertEqual((is_quotient((2, 4)), is_quotient((0, 2)), is_quotient((0, 1))), (False, False, True))
        with self.assertRaises(InvalidPaper) as caught:
            lets_web((2, ((0, 1, 3), (1, 0, 3))))
        self.assertEqual((caught.exception.word, caught.exception.at), ("house", 1))

    def test_quotients(self):
        self.assertEqual(quotient_of(6, -4), (-3, 2))
        self.assertEqual((plus((1, 2), (1, 6)), over((1, 2), (-3, 4))), ((2, 3), (-2, 3)))

    def test_joinings(self):
        self.assertEqual(joinings_of(3), ((0, 0, 0), (0, 0, 2), (0, 1, 0), (0, 1, 1), (0, 1, 2)))
        self.assertEqual((blocks_of(3, (0, 1, 0)), joining_of(3, ((1,), (0, 2)))), (((0, 2), (1,)), (0, 1, 0)))
        self.assertEqual(joined_with(4, (0, 0, 2, 3), (0, 1, 1, 3)), (0, 0, 0, 3))

    def test_webs(self):
        self.assertEqual((hold_of(ROW, 1), within_of(ROW, (0, 2))), (5, 0))
        self.assertEqual(clubs_of((3, ((0, 2, 5),))), ((0, 2), (1,)))
        self.assertEqual(kept_to(ROW, (1, 2)), (2, ((0, 1, 3),)))
        self.assertEqual(made_by(ROW, (0, 1, 0)), (2, ((0, 1, 2), (0, 1, 3))))
        self.assertEqual(renamed(ROW, (2, 0, 1)), (3, ((0, 2, 2), (0, 1, 3))))
        self.assertEqual(beside((1, ()), (2, ((0, 1, 7),))), (3, ((1, 2, 7),)))

    def test_splits(self):
        self.assertEqual((purses_of(ROW, (1, 3)), ends_at(ROW, (1, 3), 1)), ((1, 4, 0), (1, 3)))
        self.assertEqual((turned_over(ROW, (1, 3)), turned_purses(ROW, (1, 4, 0))), ((1, 0), (1, 1, 3)))
        self.assertEqual(list(all_splits(TWICE)), [(0, 0), (0, 1), (0, 2), (1, 0), (1, 1), (1, 2)])

    def test_turns(self):
        self.assertEqual(led_along(RING, (1, 0, 1), 0, (0, 2, 1), 1), (0, 1, 0))
        self.assertEqual(lets_turns(TWICE, (1, 0), ((0, (0, 1), 1),)), (0, 1))

    def test_texts(self):
        lines = (web_line(ROW), limits_line(ROW, (1, 3)), web_line((2, ())))
        self.assertEqual(lines, ("3; 0 1 2; 1 2 3", "3; 0 1 1 1; 1 2 3 0", "2"))
        with self.assertRaises(InvalidText) as caught:
            read_web("2; 1 1 3")
        self.assertEqual((caught.exception.line, caught.exception.field), (0, 1))

    def test_slacks(self):
        self.assertEqual(slack_of(ROW, (0, 0, 5), (0, 1)), -2)
        self.assertEqual(shut_lots(ROW, (2, 0, 3)), ((), (0, 1), (0, 1, 2), (1,), (1, 2)))
        self.assertEqual(short_lot(ROW, (0, 0, 5)), (0, 1))
        self.assertEqual(some_split(ROW, (2, 0, 3)), (2, 0))


class StageTwo(unittest.TestCase):
    def test_mosts(self):
        self.assertEqual(bar_of(ROW, (2, 0, 3), 0, 2), (0, 1))
        self.assertEqual(most_table(ROW, (2, 0, 3)), ((0, 2, 0), (0, 0, 0), (0, 3, 0)))
        self.assertEqual(most_of(ROW, (2, 0, 3), 0, 2), 0)

    def test_reaches(self):
        self.assertEqual(peel_either(RING, (2, 1, 0), (0, 1, 2), ("in", "out", "out")), (0, 1, 1))
        self.assertEqual(reach_of(ROW, (2, 0, 3), 0), (0, 1))
        self.assertEqual(payers_of(ROW, (2, 0, 3), 1), (0, 1, 2))
        self.assertEqual(peel_of(ROW, (2, 0, 3), (2, 0, 1)), (0, 1, 1))
        self.assertEqual(classes_of(RING, (1, 1, 1), 1), (0, 0, 0))
        self.assertEqual(classes_of(RING, (1, 1, 1), 2), (0, 1, 2))

    def test_leading(self):
        self.assertEqual(lead(RING, (1, 0, 1), 0, 2, 1, "short"), ((1, (0, 2)),))
        self.assertEqual(led_split(RING, (1, 0, 1), 0, 2, 1, ((1, (0, 2)),)), (0, 0, 0))
        self.assertEqual(lead(TWICE, (1, 2), 0, 1, 3, "wide"), ((2, (1,)), (1, (0,))))
        thing = ((1, (0,)), (2, (1,)))
        self.assertEqual(lets_leading(TWICE, (1, 2), 0, 1, 3, thing), (0, 0))
        self.assertIs(follows_rule(TWICE, (1, 2), 0, 1, 3, "short", thing), True)
        self.assertIs(follows_rule(TWICE, (1, 2), 0, 1, 3, "wide", thing), False)

    def test_batches(self):
        batch = ((0, 2, 1), (2, 1, 2))
        self.assertEqual(net_of(3, batch), (-1, 2, -1))
        self.assertEqual(settled(ROW, (2, 0, 3), batch), (1, 2, 2))
        self.assertIn(settle(ROW, (2, 0), batch), (((0, (0,), 1), (2, (1,), 1)), ((2, (1,), 1), (0, (0,), 1))))

    def test_spans(self):
        self.assertEqual(span_of(RING, (1, 1, 1), 0), (0, 1))
        self.assertEqual(split_holding(RING, (1, 1, 1), 0, 0), (0, 1, 0))

    def test_records(self):
        log = (("refused", 0, 2, 1), ("paid", 0, 1, 1, ((1, (0,)),)), ("refused", 1, 0, 1))
        self.assertEqual(judged_log(ROW, (2, 0), log), (2, "wrong"))
        self.assertIsNone(judged_log(RING, (1, 0, 1), (("turn", 0, (0, 2, 1), 1),)))

    def test_moments(self):
        self.assertEqual(Moment(ROW, (2, 0, 3)).pay(2, 1, 2).told(), ((3, ((0, 1, 2), (1, 2, 3))), (2, 2, 1)))

    def test_forest_weights(self):
        self.assertEqual((breadth_of(RING), breadth_of(ROW), weights_by_lines(ROW)), (2, 1, (1, 5, 6)))
        self.assertEqual((forest_weight(ROW), tree_weight(ROW), signed_weight(ROW)), (12, 6, 2))
        self.assertEqual((forest_weight(RING), tree_weight(RING)), (7, 3))

    def test_tables(self):
        self.assertEqual(frontier_of(ROW, (1, 0, 2), 2), (1,))
        told = ((((), 1),), (((0,), 1),), (((0,), 3),), (((), 12),))
        self.assertEqual(tables_of(ROW, (1, 0, 2)), told)
        self.assertEqual(tables_of(RING, (0, 1, 2))[2], (((0, 0), 1), ((0, 1), 1)))

    def test_joined(self):
        told = (joined_weight(RING, (0, 1)), club_weight(RING, 0, (0, 1)), joining_weight(ROW, (0, 2), (0, 1)))
        self.assertEqual(told, (4, 1, 6))

    def test_marks(self):
        self.assertEqual((is_marked(RING, (1, 1, 1)), lines_of(RING, (0, 1, 1))), (False, (1, 2)))
        told = (marked_of(RING, (1, 1, 1), 0), marked_of(TWICE, (2, 1), 0), standing_of(RING, (1, 0, 1), 0))
        self.assertEqual(told, ((0, 1, 1), (0, 2), (2, 1, 0)))
        told = (mark_paper(RING, (2, 1, 0), 0), mark_paper(TWICE, (2, 1), 0))
        self.assertEqual(told, (((1, 2, 0), (0, 1, 1), (2, 1, 1)), ((1, 2, 2),)))


if __name__ == "__main__":
    unittest.main()
