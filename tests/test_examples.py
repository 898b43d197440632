"""The printed examples of the document."""

import doctest
import pathlib
import unittest

from howeverled.allcounts import all_pay_count, class_count, class_table, neither_count
from howeverled.askchanges import asks_both, asks_of, line_asks
from howeverled.askkinds import asks_weight, weight_in
from howeverled.asktexts import asks_line, read_asks
from howeverled.balances import bent_run, gap_at
from howeverled.batches import net_of, settle, settled
from howeverled.bestlines import best_line, gain_table, loss_table, pair_sum
from howeverled.bridges import bridged, bridged_chance, shared
from howeverled.chaincounts import busy_count, chain_count
from howeverled.claimkinds import is_claim
from howeverled.claims import claim_count, claims_alike, claims_apart, holds_at
from howeverled.claimtexts import claim_line, read_claim
from howeverled.crossings import chance_by_row, chance_of_pair, chance_row, cut_houses
from howeverled.desk import desk_line
from howeverled.doortables import door_table
from howeverled.errors import InvalidPaper, InvalidText, Parted
from howeverled.eventtexts import event_line, read_log
from howeverled.fitpapers import fit_paper, lets_fit
from howeverled.forestclasses import Forests
from howeverled.foresttables import frontier_of, tables_of
from howeverled.forestweights import breadth_of, forest_weight, signed_weight, tree_weight, weights_by_lines
from howeverled.joinedpieces import piece_behind
from howeverled.joinedweights import club_weight, joined_weight, joining_weight
from howeverled.joinings import blocks_of, joined_with, joining_of, joinings_of
from howeverled.journals import days_of
from howeverled.kinds import is_joining, is_lot, is_quotient
from howeverled.ladders import ladder_of
from howeverled.leading import lead, led_split
from howeverled.ledchecker import follows_rule, lets_leading
from howeverled.lengths import length_table
from howeverled.linemeans import line_shares, lines_mean, purse_mean
from howeverled.live import LiveWeb
from howeverled.liveasks import LiveAsks
from howeverled.liveevents import is_event, is_log
from howeverled.longruns import long_run
from howeverled.marking import marked_of, standing_of
from howeverled.markkinds import is_marked, lines_of
from howeverled.markpapers import mark_paper
from howeverled.momentclasses import Moment
from howeverled.mosts import bar_of, most_of, most_table
from howeverled.numbering import next_standing, number_of, standing_at
from howeverled.openforms import end_of, least_room, share_at, share_form, sign_of
from howeverled.pairshares import refused_count, refused_share, refused_table
from howeverled.partings import lets_parting
from howeverled.piececlasses import Piece
from howeverled.piecetexts import piece_line
from howeverled.planclasses import Plan
from howeverled.pouring import coins_for, pour_row, pour_star, poured
from howeverled.pourpapers import lets_pouring, pour_paper
from howeverled.pourwebs import row_web, star_web
from howeverled.quotients import over, plus, quotient_of
from howeverled.reachcounts import joined_count, peel_count, reach_mean, reach_table
from howeverled.reaches import classes_of, payers_of, peel_either, peel_of, reach_of
from howeverled.reasons import reason_of
from howeverled.records import judged_log
from howeverled.rings import led_along
from howeverled.runclasses import Run
from howeverled.running import run_of
from howeverled.shareclasses import Shares
from howeverled.signtables import sign_table, unfelt
from howeverled.slacks import short_lot, shut_lots, slack_of
from howeverled.spans import span_of, split_holding
from howeverled.splits import all_splits, ends_at, purses_of, turned_over, turned_purses
from howeverled.standinglists import all_standings, standings_from
from howeverled.standings import some_split
from howeverled.stepping import step_of
from howeverled.stretches import stretch_at, stretch_of, stretch_table
from howeverled.swaps import first_apart
from howeverled.turnpapers import lets_turns
from howeverled.waits import waits_of
from howeverled.webchanges import beside, kept_to, made_by, renamed
from howeverled.webchecker import lets_web
from howeverled.webs import clubs_of, hold_of, within_of
from howeverled.webtexts import limits_line, read_web, web_line
from howeverled.wides import layered
from howeverled.witnesses import lets_witness
from howeverled.worths import worth_of

RING = (3, ((0, 1, 1), (0, 2, 1), (1, 2, 1)))
ROW = (3, ((0, 1, 2), (1, 2, 3)))
TWICE = (2, ((0, 1, 1), (0, 1, 2)))
ONE = (2, ((0, 1, 1),))
ASKED = ((0, 1, 1, 3), (1, 0, 1, 2))


class StageOne(unittest.TestCase):
    def test_kinds(self):
        self.assertEqual((is_lot(3, (0, 2)), is_joining(3, (0, 0, 1))), (True, False))
        self.assertEqual((is_quotient((2, 4)), is_quotient((0, 2)), is_quotient((0, 1))), (False, False, True))
        with self.assertRaises(InvalidPaper) as caught:
            lets_web((2, ((0, 1, 3), (1, 0, 3))))
        self.assertEqual((caught.exception.word, caught.exception.at), ("house", 1))

    def test_quotients(self):
        self.assertEqual(quotient_of(6, -4), (-3, 2))
        self.assertEqual((plus((1, 2), (1, 6)), over((1, 2), (-3, 4))), ((2, 3), (-2, 3)))

    def test_joinings(self):
        self.assertEqual(joinings_of(3), ((0, 0, 0), (0, 0, 2), (0, 1, 0), (0, 1, 1), (0, 1, 2)))
        self.assertEqual((blocks_of(3, (0, 1, 0)), joining_of(3, ((1,), (0, 2)))), (((0, 2), (1,)), (0, 1, 0)))
        self.assertEqual(joined_with(4, (0, 0, 2, 3), (0, 1, 1, 3)), (0, 0, 0, 3))

    def test_webs(self):
        self.assertEqual((hold_of(ROW, 1), within_of(ROW, (0, 2))), (5, 0))
        self.assertEqual(clubs_of((3, ((0, 2, 5),))), ((0, 2), (1,)))
        self.assertEqual(kept_to(ROW, (1, 2)), (2, ((0, 1, 3),)))
        self.assertEqual(made_by(ROW, (0, 1, 0)), (2, ((0, 1, 2), (0, 1, 3))))
        self.assertEqual(renamed(ROW, (2, 0, 1)), (3, ((0, 2, 2), (0, 1, 3))))
        self.assertEqual(beside((1, ()), (2, ((0, 1, 7),))), (3, ((1, 2, 7),)))

    def test_splits(self):
        self.assertEqual((purses_of(ROW, (1, 3)), ends_at(ROW, (1, 3), 1)), ((1, 4, 0), (1, 3)))
        self.assertEqual((turned_over(ROW, (1, 3)), turned_purses(ROW, (1, 4, 0))), ((1, 0), (1, 1, 3)))
        self.assertEqual(list(all_splits(TWICE)), [(0, 0), (0, 1), (0, 2), (1, 0), (1, 1), (1, 2)])

    def test_turns(self):
        self.assertEqual(led_along(RING, (1, 0, 1), 0, (0, 2, 1), 1), (0, 1, 0))
        self.assertEqual(lets_turns(TWICE, (1, 0), ((0, (0, 1), 1),)), (0, 1))

    def test_texts(self):
        lines = (web_line(ROW), limits_line(ROW, (1, 3)), web_line((2, ())))
        self.assertEqual(lines, ("3; 0 1 2; 1 2 3", "3; 0 1 1 1; 1 2 3 0", "2"))
        with self.assertRaises(InvalidText) as caught:
            read_web("2; 1 1 3")
        self.assertEqual((caught.exception.line, caught.exception.field), (0, 1))

    def test_slacks(self):
        self.assertEqual(slack_of(ROW, (0, 0, 5), (0, 1)), -2)
        self.assertEqual(shut_lots(ROW, (2, 0, 3)), ((), (0, 1), (0, 1, 2), (1,), (1, 2)))
        self.assertEqual(short_lot(ROW, (0, 0, 5)), (0, 1))
        self.assertEqual(some_split(ROW, (2, 0, 3)), (2, 0))


class StageTwo(unittest.TestCase):
    def test_mosts(self):
        self.assertEqual(bar_of(ROW, (2, 0, 3), 0, 2), (0, 1))
        self.assertEqual(most_table(ROW, (2, 0, 3)), ((0, 2, 0), (0, 0, 0), (0, 3, 0)))
        self.assertEqual(most_of(ROW, (2, 0, 3), 0, 2), 0)

    def test_reaches(self):
        self.assertEqual(peel_either(RING, (2, 1, 0), (0, 1, 2), ("in", "out", "out")), (0, 1, 1))
        self.assertEqual(reach_of(ROW, (2, 0, 3), 0), (0, 1))
        self.assertEqual(payers_of(ROW, (2, 0, 3), 1), (0, 1, 2))
        self.assertEqual(peel_of(ROW, (2, 0, 3), (2, 0, 1)), (0, 1, 1))
        self.assertEqual(classes_of(RING, (1, 1, 1), 1), (0, 0, 0))
        self.assertEqual(classes_of(RING, (1, 1, 1), 2), (0, 1, 2))

    def test_leading(self):
        self.assertEqual(lead(RING, (1, 0, 1), 0, 2, 1, "short"), ((1, (0, 2)),))
        self.assertEqual(led_split(RING, (1, 0, 1), 0, 2, 1, ((1, (0, 2)),)), (0, 0, 0))
        self.assertEqual(lead(TWICE, (1, 2), 0, 1, 3, "wide"), ((2, (1,)), (1, (0,))))
        thing = ((1, (0,)), (2, (1,)))
        self.assertEqual(lets_leading(TWICE, (1, 2), 0, 1, 3, thing), (0, 0))
        self.assertIs(follows_rule(TWICE, (1, 2), 0, 1, 3, "short", thing), True)
        self.assertIs(follows_rule(TWICE, (1, 2), 0, 1, 3, "wide", thing), False)

    def test_batches(self):
        batch = ((0, 2, 1), (2, 1, 2))
        self.assertEqual(net_of(3, batch), (-1, 2, -1))
        self.assertEqual(settled(ROW, (2, 0, 3), batch), (1, 2, 2))
        self.assertIn(settle(ROW, (2, 0), batch), (((0, (0,), 1), (2, (1,), 1)), ((2, (1,), 1), (0, (0,), 1))))

    def test_spans(self):
        self.assertEqual(span_of(RING, (1, 1, 1), 0), (0, 1))
        self.assertEqual(split_holding(RING, (1, 1, 1), 0, 0), (0, 1, 0))

    def test_records(self):
        log = (("refused", 0, 2, 1), ("paid", 0, 1, 1, ((1, (0,)),)), ("refused", 1, 0, 1))
        self.assertEqual(judged_log(ROW, (2, 0), log), (2, "wrong"))
        self.assertIsNone(judged_log(RING, (1, 0, 1), (("turn", 0, (0, 2, 1), 1),)))

    def test_moments(self):
        self.assertEqual(Moment(ROW, (2, 0, 3)).pay(2, 1, 2).told(), ((3, ((0, 1, 2), (1, 2, 3))), (2, 2, 1)))

    def test_forest_weights(self):
        self.assertEqual((breadth_of(RING), breadth_of(ROW), weights_by_lines(ROW)), (2, 1, (1, 5, 6)))
        self.assertEqual((forest_weight(ROW), tree_weight(ROW), signed_weight(ROW)), (12, 6, 2))
        self.assertEqual((forest_weight(RING), tree_weight(RING)), (7, 3))

    def test_tables(self):
        self.assertEqual(frontier_of(ROW, (1, 0, 2), 2), (1,))
        told = ((((), 1),), (((0,), 1),), (((0,), 3),), (((), 12),))
        self.assertEqual(tables_of(ROW, (1, 0, 2)), told)
        self.assertEqual(tables_of(RING, (0, 1, 2))[2], (((0, 0), 1), ((0, 1), 1)))

    def test_joined(self):
        told = (joined_weight(RING, (0, 1)), club_weight(RING, 0, (0, 1)), joining_weight(ROW, (0, 2), (0, 1)))
        self.assertEqual(told, (4, 1, 6))

    def test_marks(self):
        self.assertEqual((is_marked(RING, (1, 1, 1)), lines_of(RING, (0, 1, 1))), (False, (1, 2)))
        told = (marked_of(RING, (1, 1, 1), 0), marked_of(TWICE, (2, 1), 0), standing_of(RING, (1, 0, 1), 0))
        self.assertEqual(told, ((0, 1, 1), (0, 2), (2, 1, 0)))
        told = (mark_paper(RING, (2, 1, 0), 0), mark_paper(TWICE, (2, 1), 0))
        self.assertEqual(told, (((1, 2, 0), (0, 1, 1), (2, 1, 1)), ((1, 2, 2),)))


class StageThree(unittest.TestCase):
    def test_numbers(self):
        told = (number_of(RING, (1, 1, 1), 0), standing_at(RING, 3, 0), next_standing(RING, (1, 0, 2), 0))
        self.assertEqual(told, (6, (2, 1, 0), (2, 1, 0)))
        told = [(0, 1, 2), (0, 2, 1), (1, 0, 2), (2, 1, 0), (1, 2, 0), (2, 0, 1), (1, 1, 1)]
        self.assertEqual([standing_at(RING, number, 0) for number in range(7)], told)
        told = ((0, 3), (1, 2), (2, 1), (3, 0))
        self.assertEqual(all_standings(TWICE), told)
        self.assertEqual(list(standings_from(TWICE, 0)), [(0, 3), (3, 0), (1, 2), (2, 1)])
        made = Forests(RING, 0)
        self.assertEqual((made.weight(), made.trees(), made.purses_by((0, 0, 0))), (7, 3, (0, 1, 2)))

    def test_pairs(self):
        self.assertEqual((refused_count(RING, 0, 1, 3), refused_share(ROW, 0, 2, 2)), (7, (5, 6)))
        told = (((0, 1), (1, 3), (1, 2)), ((1, 3), (0, 1), (1, 4)), ((1, 2), (1, 4), (0, 1)))
        self.assertEqual(refused_table(ROW), told)
        self.assertEqual(stretch_at(RING, (2, 0, 1), 0, 1), (2, 2))
        self.assertEqual(list(stretch_of(RING, (2, 0, 1), 0, 1)), [(0, 2, 1), (1, 1, 1), (2, 0, 1)])
        self.assertEqual(stretch_table(ROW, 0, 2), ((0, 2), (1, 2), (2, 2)))
        self.assertEqual((refused_count(ROW, 0, 2, 1), refused_count(ROW, 0, 2, 2)), (6, 10))

    def test_reaches(self):
        self.assertEqual(joined_count(ROW, (0, 2)), 6)
        self.assertEqual(reach_table(RING, 0), (((0,), 2), ((0, 1), 1), ((0, 1, 2), 3), ((0, 2), 1)))
        self.assertEqual((reach_mean(RING, 0), peel_count(ROW, (0, 0, 2))), ((15, 7), 2))

    def test_counts(self):
        self.assertEqual((chain_count(ROW, ((0,), (0, 1))), busy_count(ROW)), (1, 5))
        self.assertEqual((all_pay_count(RING), class_count(TWICE, (0, 0)), neither_count(ROW, 0, 2)), (1, 2, 2))
        self.assertEqual(class_table(RING), (((0, 0, 0), 1), ((0, 1, 2), 6)))
        self.assertEqual((line_shares(ROW), lines_mean(ROW), purse_mean(ROW, 1)), (((1, 3), (1, 4)), (17, 12), (5, 2)))

    def test_claims(self):
        self.assertIs(is_claim(3, ("holds", 0, True)), False)
        self.assertIs(holds_at(RING, (2, 0, 1), ("both", ("pays", 0, 1, 2), ("shut", (1,)))), True)
        self.assertEqual(claim_count(ROW, ("pays", 0, 2, 2)), 2)
        self.assertIs(claims_alike(RING, ("shut", (1,)), ("not", ("holds", 1, 1))), True)
        self.assertEqual(claims_apart(RING, ("pays", 0, 1, 1), ("pays", 1, 0, 1)), (0, 1, 2))
        told = claim_line(3, ("not", ("both", ("pays", 0, 1, 2), ("shut", (0, 1, 2)))))
        self.assertEqual(told, "not both pays 0 1 2 shut 3 0 1 2")
        self.assertEqual(read_claim(3, "holds 0 4"), ("holds", 0, 4))
        self.assertEqual(Shares(RING).joined((0, 1)), (4, 7))

    def test_asks(self):
        self.assertEqual((asks_weight(2, ASKED), weight_in(2, ASKED, 0, 1, 2)), (5, 0))


class StageFour(unittest.TestCase):
    def test_asks(self):
        self.assertEqual(asks_both(2, ASKED), ((0, 1, 1, 5), (1, 0, 1, 5)))
        told = run_of(ROW, (2, 0, 3), ((0, 1, 2), (0, 2, 1), (1, 0, 1)))
        self.assertEqual(told, ((True, False, True), (1, 1, 3)))
        self.assertEqual(asks_line(2, ASKED), "0 1 1 3; 1 0 1 2")
        with self.assertRaises(InvalidText) as caught:
            read_asks(2, "0 1 1 3; 1 1 1 2")
        self.assertEqual((caught.exception.line, caught.exception.field), (0, 5))

    def test_long_runs(self):
        self.assertEqual(long_run(ONE, ASKED), ((3, 5), (2, 5)))
        with self.assertRaises(Parted) as caught:
            long_run(ONE, ((0, 1, 1, 1),))
        self.assertEqual((caught.exception.here, caught.exception.there), ((0, 1), (1, 0)))
        self.assertEqual(gap_at(ONE, ASKED, ((1, 1), (3, 1)), (0, 1)), (1, 1))
        self.assertEqual(bent_run(ONE, ((1, 1), (3, 2))), ((3, 5), (2, 5)))
        self.assertEqual(waits_of(ONE, ASKED, 0, 1, 1), ((25, 9), (40, 9)))
        self.assertEqual(Run(ONE, ASKED).back().refused(0, 1, 1), (2, 5))

    def test_fits(self):
        self.assertEqual(fit_paper(ONE, ASKED), ("fits", ((1, 1), (3, 2))))
        asks = asks_of(3, (0, 1, 1, 1), *line_asks(RING, 1))
        self.assertIsNone(lets_fit(RING, asks, ("odd", (0, 1, 1), (0, 2, 1))))
        self.assertEqual(layered(ROW, 1, ((0,), (1,), (2,)), 0), (2, 3, 0))
        self.assertEqual(lets_witness(TWICE, ASKED, ((1, 1), (1, 1)), (3, 0)), (1, 1))


P = (ROW, (0, 2))


class StageFive(unittest.TestCase):
    def test_doors(self):
        self.assertEqual(door_table(P), (6, 12))

    def test_pieces(self):
        self.assertEqual(piece_behind((TWICE, (0, 1)), P), ((4, ((0, 1, 1), (0, 1, 2), (1, 2, 2), (2, 3, 3))), (0, 3)))
        self.assertEqual(ladder_of((3, 2)), ((3, ((0, 1, 1), (0, 2, 1), (1, 2, 2))), (0, 1)))
        self.assertEqual(length_table(P), ((0, 2), (1, 2), (2, 2)))
        self.assertEqual(worth_of(P), (1, 1))

    def test_in_the_place_of_another(self):
        self.assertEqual(first_apart(P, ((2, ((0, 1, 1),)), (0, 1))), 2)
        self.assertEqual(lets_parting(P, (TWICE, (0, 1)), ((0, 1), 0, 1)), ((1, 2), (1, 4)))
        self.assertEqual(piece_line(P), "doors 0 2 | 3; 0 1 2; 1 2 3")
        self.assertEqual(Piece(*P[:1], *P[1]).told(), P)

    def test_forms(self):
        form = share_form(RING, 0, 1, 0, 2)
        self.assertEqual(form, (3, 1, 7, 3))
        told = (share_at(form, 0), share_at(form, 1), sign_of(form), end_of(form))
        self.assertEqual(told, ((3, 7), (2, 5), -1, (1, 3)))
        told = (least_room(form, (2, 5)), least_room(form, (1, 3)), least_room(form, (1, 2)))
        self.assertEqual(told, (1, None, 0))
        self.assertEqual(sign_table(ROW, 0, 1), ((0, 1, -1), (0, 2, -1), (1, 2, 0)))
        self.assertEqual((unfelt(ROW, 0, 1), unfelt(ROW, 0, 2)), (((1, 2),), ()))

    def test_pouring(self):
        self.assertEqual((poured((0, 2, 0), 5), poured((0, 2, 0), 0)), ((3, 2, 2), (0, 2, 0)))
        told = (pour_row((2, 3)), pour_row((2, 0)), pour_star((1, 1)), pour_star((0, 3)))
        self.assertEqual(told, ((1, 2), (0, 1), (5, 4), (3, 4)))
        told = (coins_for((0, 0), (1, 4)), coins_for((1,), (3, 4)), coins_for((5,), (1, 1)))
        self.assertEqual(told, (2, 2, None))


class StageSix(unittest.TestCase):
    def test_pouring(self):
        told = (row_web((2, 0, 3)), star_web((2, 0, 3)))
        self.assertEqual(told, ((4, ((0, 1, 2), (2, 3, 3))), (4, ((0, 1, 2), (0, 3, 3)))))
        self.assertEqual(pour_paper((0, 2, 0), 5), (0, 2, 0, 2, 0))
        told = (lets_pouring((0, 2, 0), (2, 0, 2)), lets_pouring((0, 2, 0), ()))
        self.assertEqual(told, ((1, 2, 2), (0, 2, 0)))
        with self.assertRaises(InvalidPaper) as caught:
            lets_pouring((0, 2, 0), (0, 0))
        self.assertEqual((caught.exception.word, caught.exception.at), ("least", 1))

    def test_crossings(self):
        told = (cut_houses(ROW), cut_houses(RING), chance_row(ROW, 2, 0), chance_row(RING, 0, 1))
        self.assertEqual(told, ((1,), (), (2, 1, 0), (0, 1)))
        told = (chance_of_pair(RING, 0, 1), chance_of_pair(ROW, 0, 2), chance_by_row(ROW, 0, 2))
        self.assertEqual(told, ((4, 7), (1, 2), (1, 2)))

    def test_bridges(self):
        self.assertEqual(bridged(TWICE, 1, ROW, 0, 2), (5, ((0, 1, 1), (0, 1, 2), (2, 3, 2), (3, 4, 3), (1, 2, 2))))
        self.assertEqual(shared(ROW, 2, TWICE, 1), (4, ((0, 1, 2), (1, 2, 3), (2, 3, 1), (2, 3, 2))))
        self.assertEqual(bridged_chance(TWICE, 1, RING, 0, 2, 0, 1), (2, 7))

    def test_best_lines(self):
        told = (pair_sum(ROW), pair_sum((1, ())), loss_table(ROW))
        self.assertEqual(told, ((23, 12), (0, 1), ((3, 4), (2, 3))))
        self.assertEqual(gain_table(ROW, 1), ((0, 1, (33, 16)), (0, 2, (13, 6)), (1, 2, (2, 1))))
        self.assertEqual(best_line(ROW, 1), (0, 2))
        plan = Plan(ROW).with_new(2, 0, 1)
        told = (plan == Plan((3, ((0, 1, 2), (1, 2, 3), (0, 2, 1)))), plan.total_chance())
        self.assertEqual(told, (True, (13, 6)))

    def test_events(self):
        self.assertEqual([is_event(("pay", 0, 2, 1)), is_event(("pay", 2, 2, 1)), is_log(())], [True, False, True])
        told = [reason_of(ROW, (2, 0, 3), ("close", 0, 1)), reason_of(ROW, (2, 0, 3), ("close", 0, 2))]
        self.assertEqual(told, ["held", None])
        self.assertEqual(step_of(ROW, (2, 0), ("close", 0, 2), "wide"), ((3, ((1, 2, 3),)), (0,), True))

    def test_live(self):
        asks = LiveAsks(ROW, (2, 0), "short")
        told = [asks.can(0, 1, 2), asks.most(0, 2), asks.reach(0), asks.span(0), asks.chance(0, 2)]
        self.assertEqual(told, [True, 0, (0, 1), (2, 2), (1, 2)])
        live = LiveWeb(3, "short")
        self.assertEqual(live.do_all((("line", 0, 1, 2, 0), ("line", 2, 1, 3, 0))), (None, None))
        told = [live.web_now() == ROW, live.pay(0, 2, 1), live.pay(2, 1, 1), live.purses_now()]
        self.assertEqual(told, [True, False, True, (2, 1, 2)])
        told = [live.tally(), live.refusals()]
        self.assertEqual(told, [((0, 0, 1), (0, 1, 0), (1, 0, 0)), ((2, (0, 1)),)])
        told = [desk_line(live, "most 0 1"), desk_line(live, "bar 0 2 2"), desk_line(live, "chance 0 2")]
        self.assertEqual(told, ["2", "0 1", "1/2"])

    def test_logs(self):
        log = (("line", 0, 1, 2, 0), ("pay", 0, 1, 1), ("day",), ("house",), ("day",))
        self.assertEqual(days_of(2, "ones", log), ((-1, 1), (0, 0, 0)))
        told = [event_line(("turn", 0, (2, 1), 3)), read_log("pay 0 2 3\nday")]
        self.assertEqual(told, ["turn 0 3 2 1", (("pay", 0, 2, 3), ("day",))])


class Readme(unittest.TestCase):
    def test_examples(self):
        path = pathlib.Path(__file__).resolve().parent.parent / "README.md"
        failed, tried = doctest.testfile(str(path), module_relative=False)
        self.assertEqual(failed, 0)
        self.assertGreater(tried, 10)


if __name__ == "__main__":
    unittest.main()
