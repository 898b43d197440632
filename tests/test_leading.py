"""Leadings by each rule, their checkers, batches and logs."""

import random
import unittest
from itertools import permutations, product

from reckon import (
    HUGE, RING, ROW, TWICE, bar, great_web, innermost, least_slack, led, lots, most, moved, purses_at, rings, slack,
    small_webs, some_standing, splits, standings, ways, width,
)
from howeverled.batches import can_settle, net_of, settle, settled
from howeverled.errors import InvalidPaper, Refused
from howeverled.leading import lead, led_split
from howeverled.ledchecker import follows_rule, lets_leading
from howeverled.records import judged_log
from howeverled.rings import is_way
from howeverled.webchanges import beside, with_line

RULES = ("short", "wide", "ones")


def steps_right(web, split, payer, payee, coins, rule, leading):
    """True if each part is one that the rule may take, judged among all ways."""
    every = ways(web, payer, payee)
    left = coins
    for part, way in leading:
        open_ways = [one for one in every if width(web, split, payer, one) >= 1]
        if way not in open_ways or left <= 0:
            return False
        wide = width(web, split, payer, way)
        if rule == "wide":
            right = wide == max(width(web, split, payer, one) for one in open_ways)
        else:
            right = len(way) == min(len(one) for one in open_ways)
        if not right or part != (1 if rule == "ones" else min(left, wide)):
            return False
        split = led(web, split, payer, way, part)
        left -= part
    return left == 0


class Leading(unittest.TestCase):
    def test_every_payment(self):
        for web in small_webs(30, many=16, seed=11):
            known = standings(web)
            for split in splits(web):
                purses = purses_at(web, split)
                for payer, payee in permutations(range(web[0]), 2):
                    greatest = most(known, purses, payer, payee)
                    for coins, rule in product(range(1, greatest + 1), RULES):
                        leading = lead(web, split, payer, payee, coins, rule)
                        self.assertIs(steps_right(web, split, payer, payee, coins, rule, leading), True)
                        after = led_split(web, split, payer, payee, coins, leading)
                        self.assertEqual(purses_at(web, after), moved(purses, payer, payee, coins))
                        self.assertEqual(lets_leading(web, split, payer, payee, coins, leading), after)
                        for other in RULES:
                            told = follows_rule(web, split, payer, payee, coins, other, leading)
                            self.assertIs(told, steps_right(web, split, payer, payee, coins, other, leading))
                    for rule in RULES:
                        with self.assertRaises(Refused) as caught:
                            lead(web, split, payer, payee, greatest + 1, rule)
                        self.assertEqual(caught.exception.lot, bar(web, purses, payer, payee))

    def all_leadings(self, web, split, payer, payee, coins):
        """All leadings of the payment."""
        if coins == 0:
            yield ()
            return
        for way in ways(web, payer, payee):
            for part in range(1, min(coins, width(web, split, payer, way)) + 1):
                after = led(web, split, payer, way, part)
                for rest in self.all_leadings(web, after, payer, payee, coins - part):
                    yield ((part, way), *rest)

    def test_every_leading_of_some_payments(self):
        """Whatever parts are led, all of the coins come through; and each leading is judged by each rule."""
        for web in small_webs(24, many=10, seed=12):
            for split in splits(web)[::3]:
                known = standings(web)
                for payer, payee in permutations(range(web[0]), 2):
                    coins = min(3, most(known, purses_at(web, split), payer, payee))
                    if coins == 0:
                        continue
                    for leading in self.all_leadings(web, split, payer, payee, coins):
                        after = led_split(web, split, payer, payee, coins, leading)
                        self.assertEqual(lets_leading(web, split, payer, payee, coins, leading), after)
                        for rule in RULES:
                            told = follows_rule(web, split, payer, payee, coins, rule, leading)
                            self.assertIs(told, steps_right(web, split, payer, payee, coins, rule, leading))

    def test_no_dead_end(self):
        """After any part that can be led, the rest can be paid."""
        for web in small_webs(24, many=10, seed=13):
            known = standings(web)
            for split in splits(web):
                for payer, payee in permutations(range(web[0]), 2):
                    coins = most(known, purses_at(web, split), payer, payee)
                    for way in ways(web, payer, payee):
                        if 1 <= width(web, split, payer, way) and coins > 1:
                            after = led(web, split, payer, way, 1)
                            leading = lead(web, after, payer, payee, coins - 1, "short")
                            self.assertEqual(sum(part for part, _ in leading), coins - 1)

    def test_great_webs(self):
        for seed in range(10):
            web = great_web(seed)
            split, purses = some_standing(web, seed)
            draw = random.Random(seed)
            payer, payee = draw.sample(range(8), 2)
            among = [lot for lot in lots(8) if payer in lot and payee not in lot]
            greatest = min(slack(web, purses, lot) for lot in among)
            for rule, coins in (("short", greatest), ("wide", greatest), ("ones", min(40, greatest))):
                if coins == 0:
                    continue
                leading = lead(web, split, payer, payee, coins, rule)
                self.assertIs(follows_rule(web, split, payer, payee, coins, rule, leading), True)
                self.assertIs(steps_right(web, split, payer, payee, coins, rule, leading), True)
                after = led_split(web, split, payer, payee, coins, leading)
                self.assertEqual(purses_at(web, after), moved(purses, payer, payee, coins))
            for rule in RULES:
                with self.assertRaises(Refused) as caught:
                    lead(web, split, payer, payee, greatest + 1, rule)
                self.assertEqual(caught.exception.lot, innermost(least_slack(web, purses, among)))

    def test_wide_looks_past_what_is_left(self):
        """The widest way is due, though a narrower one would be wide enough for the one coin left."""
        web = (2, ((0, 1, 1), (0, 1, 5)))
        self.assertEqual(lead(web, (1, 5), 0, 1, 1, "wide"), ((1, (1,)),))
        self.assertIs(follows_rule(web, (1, 5), 0, 1, 1, "wide", ((1, (0,)),)), False)
        self.assertIs(follows_rule(web, (1, 5), 0, 1, 1, "short", ((1, (0,)),)), True)

    def test_wide_takes_a_detour(self):
        web = (3, ((0, 1, 2), (0, 2, 5), (1, 2, 4)))
        self.assertEqual(lead(web, (2, 5, 0), 0, 1, 6, "wide"), ((4, (1, 2)), (2, (0,))))
        self.assertEqual(lead(web, (2, 5, 0), 0, 1, 6, "short"), ((2, (0,)), (4, (1, 2))))
        self.assertEqual(lead(web, (2, 5, 0), 0, 1, 3, "ones"), ((1, (0,)), (1, (0,)), (1, (1, 2))))

    def test_short_lays_parts_as_wide_as_can_be(self):
        self.assertIs(follows_rule(TWICE, (1, 2), 0, 1, 2, "short", ((1, (1,)), (1, (1,)))), False)
        self.assertIs(follows_rule(TWICE, (1, 2), 0, 1, 2, "ones", ((1, (1,)), (1, (1,)))), True)
        self.assertIs(follows_rule(TWICE, (1, 2), 0, 1, 1, "ones", ((1, (1,)),)), True)


class Checker(unittest.TestCase):
    CASES = (
        (None, ("shape", -1)),
        ([(1, (0,))], ("shape", -1)),
        ("", ("shape", -1)),
        (((1,),), ("shape", 0)),
        (((1, (0,), 1),), ("shape", 0)),
        (([1, (0,)],), ("shape", 0)),
        (((1, (0,)), None), ("shape", 1)),
        (((0, (0,)),), ("coins", 0)),
        (((True, (0,)),), ("coins", 0)),
        (((-1, None),), ("coins", 0)),
        (((None, (5,)),), ("coins", 0)),
        (((1, ()),), ("way", 0)),
        (((1, [0]),), ("way", 0)),
        (((1, (2,)),), ("way", 0)),
        (((1, (False,)),), ("way", 0)),
        (((1, (0, 1)),), ("way", 0)),
        (((9, (0, 0)),), ("way", 0)),
        (((2, (0,)),), ("end", 0)),
        (((1, (0,)), (1, (0,))), ("end", 1)),
        (((1, (0,)), (1, (0,)), None), ("end", 1)),
        (((1, (0,)),), ("sum", -1)),
        ((), ("sum", -1)),
        (((2, (1,)), (1, (0,))), ("sum", -1)),
    )

    def test_refusals(self):
        for thing, told in self.CASES:
            with self.assertRaises(InvalidPaper) as caught:
                lets_leading(TWICE, (1, 2), 0, 1, 2, thing)
            self.assertEqual((caught.exception.word, caught.exception.at), told, thing)
            for rule in RULES:
                self.assertIs(follows_rule(TWICE, (1, 2), 0, 1, 2, rule, thing), False)

    def test_leads_any_way(self):
        self.assertEqual(lets_leading(RING, (1, 1, 0), 0, 2, 1, ((1, (1,)),)), (1, 0, 0))
        with self.assertRaises(InvalidPaper) as caught:
            lets_leading(RING, (1, 1, 0), 0, 2, 1, ((1, (0, 2)),))
        self.assertEqual((caught.exception.word, caught.exception.at), ("end", 0))


class Batches(unittest.TestCase):
    def draw_batch(self, draw, size):
        batch = []
        for _ in range(draw.randint(0, 5) if size > 1 else 0):
            payer, payee = draw.sample(range(size), 2)
            batch.append((payer, payee, draw.randint(1, 3)))
        return tuple(batch)

    def check(self, web, split, batch, known):
        size = web[0]
        purses = purses_at(web, split)
        nets = [0] * size
        for payer, payee, coins in batch:
            nets[payer] -= coins
            nets[payee] += coins
        self.assertEqual(net_of(size, batch), tuple(nets))
        after = tuple(purse + net for purse, net in zip(purses, nets))
        self.assertIs(can_settle(web, purses, batch), after in known)
        if after not in known:
            for call in (lambda: settled(web, purses, batch), lambda: settle(web, split, batch)):
                with self.assertRaises(Refused) as caught:
                    call()
                self.assertEqual(caught.exception.lot, innermost(least_slack(web, after, lots(size))))
            return
        self.assertEqual(settled(web, purses, batch), after)
        self.check_parts(web, split, nets, after, settle(web, split, batch))

    def check_parts(self, web, split, nets, after, parts):
        self.assertIs(type(parts), tuple)
        if not any(nets):
            self.assertEqual(parts, ())
        ends = []
        for house, way, coins in parts:
            end = house
            for line in way:
                one, other, _ = web[1][line]
                end = other if end == one else one
            ends.append(end)
            self.assertIs(is_way(web, house, end, way), True)
            self.assertLess(nets[house], 0)
            self.assertGreater(nets[end], 0)
            self.assertGreaterEqual(coins, 1)
        draw = random.Random(len(parts))
        if len(parts) <= 4:
            sequences = list(permutations(parts))
        else:
            sequences = [parts, parts[::-1]] + [draw.sample(parts, len(parts)) for _ in range(20)]
        for sequence in sequences:
            now = split
            for house, way, coins in sequence:
                now = led(web, now, house, way, coins)
            self.assertEqual(purses_at(web, now), after)

    def test_batches(self):
        draw = random.Random(21)
        for web in small_webs(40, many=30, seed=14):
            known = standings(web)
            for split in splits(web):
                for _ in range(4):
                    self.check(web, split, self.draw_batch(draw, web[0]), known)

    def test_coins_that_would_come_back(self):
        """House 0 pays over house 1, then coins of house 3 come by house 0: together they would go round."""
        lines = ((0, 1, 1), (1, 2, 1), (0, 5, 3), (5, 6, 3), (3, 4, 3), (2, 4, 3), (0, 2, 2))
        web = (7, lines)
        known = standings(web)
        for batch in (((0, 2, 1), (3, 6, 2)), ((0, 2, 1), (3, 6, 1)), ((3, 6, 2),), ((0, 6, 1), (3, 2, 2))):
            self.check(web, (1, 1, 3, 3, 3, 0, 0), batch, known)

    def test_great_webs(self):
        for seed in range(10):
            web = great_web(seed)
            split, purses = some_standing(web, seed)
            _, wish = some_standing(web, seed + 100)
            nets = [to - now for now, to in zip(purses, wish)]
            due = list(nets)
            batch = []
            while any(due):
                payer, payee = due.index(min(due)), due.index(max(due))
                coins = min(-due[payer], due[payee])
                batch.append((payer, payee, coins))
                due[payer] += coins
                due[payee] -= coins
            self.assertEqual(settled(web, purses, tuple(batch)), wish)
            self.check_parts(web, split, nets, wish, settle(web, split, tuple(batch)))

    def test_returned_webs(self):
        web = with_line(with_line(beside(great_web(1), great_web(2)), 0, 8, HUGE), 7, 15, HUGE)
        split, purses = some_standing(web, 2)
        batch = tuple((house, (house + 5) % 16, 7) for house in range(0, 16, 2))
        nets = net_of(16, batch)
        self.assertIs(can_settle(web, purses, batch), True)
        self.check_parts(web, split, nets, settled(web, purses, batch), settle(web, split, batch))

    def test_only_together(self):
        """No ask can be paid alone, both can be settled."""
        purses = (0, 2, 0)
        web = (3, ((0, 1, 1), (1, 2, 1)))
        batch = ((0, 2, 1), (2, 0, 1))
        self.assertEqual(most(standings(web), purses, 0, 2), 0)
        self.assertEqual(settled(web, purses, batch), purses)
        self.assertEqual(settle(web, (0, 1), batch), ())
        self.assertEqual(settle((1, ()), (), ()), ())
        self.assertEqual(net_of(1, ()), (0,))
        self.assertEqual(net_of(3, ((0, 1, 2), (0, 1, 2))), (-4, 4, 0))

    def test_refused_lot(self):
        with self.assertRaises(Refused) as caught:
            settled(ROW, (2, 0, 3), ((1, 0, 1),))
        self.assertEqual(caught.exception.lot, (1,))
        # the lots (0,) and (0, 1, 2) have the same slack behind the ask: the lesser one is told
        with self.assertRaises(Refused) as caught:
            settle((4, ((0, 1, 1), (1, 2, 1), (2, 3, 2))), (0, 0, 0), ((0, 3, 1),))
        self.assertEqual(caught.exception.lot, (0,))


class Records(unittest.TestCase):
    def test_right_logs(self):
        for web in small_webs(24, many=14, seed=15):
            known = standings(web)
            draw = random.Random(len(web[1]))
            for split in splits(web)[::2]:
                now = split
                log = []
                for _ in range(8):
                    if web[0] == 1:
                        break
                    payer, payee = draw.sample(range(web[0]), 2)
                    coins = draw.randint(1, 3)
                    if most(known, purses_at(web, now), payer, payee) >= coins:
                        self.assertEqual(judged_log(web, split, (*log, ("refused", payer, payee, coins))),
                                         (len(log), "wrong"))
                        leading = lead(web, now, payer, payee, coins, draw.choice(RULES))
                        log.append(("paid", payer, payee, coins, leading))
                        now = led_split(web, now, payer, payee, coins, leading)
                    else:
                        log.append(("refused", payer, payee, coins))
                        paid = ("paid", payer, payee, coins, ((coins, ways(web, payer, payee)[:1]),))
                        self.assertEqual(judged_log(web, split, (*log, paid)), (len(log), "unled"))
                    for ring in rings(web, payer)[:2]:
                        wide = width(web, now, payer, ring)
                        over = ("turn", payer, ring, wide + 1)
                        self.assertEqual(judged_log(web, split, (*log, over)), (len(log), "unled"))
                        if wide:
                            log.append(("turn", payer, ring, wide))
                            now = led(web, now, payer, ring, wide)
                self.assertIsNone(judged_log(web, split, tuple(log)))
        self.assertIsNone(judged_log((1, ()), (), ()))

    def test_wrong_rows(self):
        right = ("paid", 0, 1, 1, ((1, (0,)),))
        for row, word in (
            (None, "shape"), ((), "shape"), ("paid", "shape"), (["paid", 0, 1, 1, ((1, (0,)),)], "shape"),
            (("pay", 0, 1, 1), "shape"), ((None, 0, 1, 1), "shape"), ((("refused",), 0, 1, 1), "shape"),
            (("paid", 0, 1, 1), "shape"), (("paid", 0, 1, 1, ((1, (0,)),), 1), "shape"),
            (("refused", 0, 2), "shape"), (("refused", 0, 2, 1, ()), "shape"),
            ((["refused"], 0, 2, 1), "shape"), (([], 0, 1, 1, ()), "shape"), ((True, 0, 1, 1), "shape"),
            (("refused", 3, 2, 1), "shape"), (("refused", 0, 0, 1), "shape"), (("refused", 0, 2, 0), "shape"),
            (("refused", False, 2, 1), "shape"), (("refused", 0, True, 1), "shape"),
            (("refused", 0, 2, True), "shape"), (("refused", 0, -1, 1), "shape"), (("refused", "0", 2, 1), "shape"),
            (("paid", 0, 3, 1, None), "shape"), (("paid", 0, 1, 0, None), "shape"),
            (("turn", 3, (0, 1), 1), "shape"), (("turn", 0, (0, 1), 0), "shape"), (("turn", 0, None, None), "shape"),
            (("turn", 0, (0, 1)), "shape"), (("turn", True, (0, 1), 1), "shape"),
            (("paid", 0, 1, 1, None), "unled"), (("paid", 0, 1, 1, ()), "unled"),
            (("paid", 0, 1, 1, [(1, (0,))]), "unled"), (("paid", 0, 1, 2, ((1, (0,)),)), "unled"),
            (("paid", 0, 1, 2, ((2, (0,)),)), "unled"), (("paid", 0, 1, 1, ((True, (0,)),)), "unled"),
            (("paid", 1, 0, 1, ((1, (1,)),)), "unled"), (("paid", 0, 2, 9, 5), "unled"),
            (("turn", 0, None, 1), "unled"), (("turn", 0, (0, 1), 1), "unled"), (("turn", 0, (), 1), "unled"),
            (("refused", 0, 1, 1), "wrong"), (("refused", 2, 1, 2), "wrong"),
        ):
            self.assertEqual(judged_log(ROW, (2, 0), (right, row, None)), (1, word), row)
            self.assertEqual(judged_log(ROW, (1, 0), (row,)), (0, word), row)
        self.assertEqual(judged_log(ROW, (2, 0), (right, right, right)), (2, "unled"))

    def test_refused_changes_nothing(self):
        log = (("refused", 0, 2, 1), ("refused", 0, 2, 1), ("paid", 2, 1, 3, ((3, (1,)),)), ("refused", 2, 1, 1),
               ("paid", 0, 1, 2, ((1, (0,)), (1, (0,)))), ("paid", 1, 2, 1, ((1, (1,)),)))
        self.assertIsNone(judged_log(ROW, (2, 0), log))
        ring = (("turn", 0, (0, 2, 1), 1), ("turn", 0, (1, 2, 0), 1), ("turn", 2, (2, 0, 1), 1))
        self.assertEqual(judged_log(RING, (1, 0, 1), ring), (2, "unled"))
        self.assertIsNone(judged_log(RING, (1, 0, 1), ring[:2]))


if __name__ == "__main__":
    unittest.main()
