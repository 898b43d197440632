"""Steps, long runs, gaps, bent runs and waits."""

import random
import unittest
from fractions import Fraction

from askreckon import asks_from, fitting_rows, gap, random_bends, random_rows, term, told
from reckon import HUGE, RING, ROW, TWICE, great_web, moved, small_webs, some_standing, standings
from howeverled.askchanges import asks_back, asks_both, line_asks
from howeverled.balances import bent_run, gap_at, is_lasting
from howeverled.errors import NotUsable, Parted
from howeverled.fits import asks_fit
from howeverled.kinds import is_quotient
from howeverled.longruns import asked_refused, comes_to, long_run
from howeverled.runclasses import Run
from howeverled.splits import turned_purses
from howeverled.steps import step_rows
from howeverled.waits import mean_wait, waits_of

ONE = (2, ((0, 1, 1),))
ASKED = ((0, 1, 1, 3), (1, 0, 1, 2))


def number(quotient):
    assert is_quotient(quotient), quotient
    return Fraction(*quotient)


def step(known, purses, ask):
    """The purses behind the ask."""
    after = moved(purses, *ask[:3])
    return after if after in known else purses


def come_to(known, asks, purses):
    met = {purses}
    row = [purses]
    for now in row:
        for ask in asks:
            after = step(known, now, ask)
            if after not in met:
                met.add(after)
                row.append(after)
    return tuple(sorted(met))


def first_parted(known, asks):
    """The first two standings between which steps do not lead, or None."""
    for here in sorted(known):
        found = come_to(known, asks, here)
        for there in sorted(known):
            if there not in found:
                return here, there
    return None


def webs_solved(many, seed):
    return [web for web in small_webs(300, many=many, seed=seed) if len(standings(web)) <= 24]


def some_asks(draw, web):
    """Asks of many kinds: none, one way alone, along lines both ways, any."""
    size = web[0]
    found = [(), asks_from(random_rows(draw, size, 1)), asks_from(random_rows(draw, size, 5))]
    lines = [(one, other, 1, draw.randint(1, 9)) for one, other, _ in web[1]]
    lines += [(other, one, 1, draw.randint(1, 9)) for one, other, _ in web[1]]
    found.append(asks_from(lines))
    found.append(asks_from(lines + random_rows(draw, size, 3, 3, 9)))
    found.append(asks_from([row[:3] + (row[3] * 10 ** 5,) for row in lines]))
    return found


class Steps(unittest.TestCase):
    def test_rows(self):
        draw = random.Random(1)
        for web in webs_solved(25, 91):
            known = standings(web)
            row = sorted(known)
            for asks in some_asks(draw, web):
                rows = step_rows(web, asks)
                self.assertEqual(len(rows), len(row))
                for purses, weights in zip(row, rows):
                    due = [sum(ask[3] for ask in asks if step(known, purses, ask) == after) for after in row]
                    self.assertEqual(weights, tuple(due))
                    self.assertEqual(sum(weights), sum(ask[3] for ask in asks))
        self.assertEqual(step_rows(ONE, ASKED), ((3, 2), (3, 2)))
        self.assertEqual(step_rows((2, ()), ASKED), ((5,),))
        self.assertEqual(step_rows((1, ()), ()), ((0,),))

    def test_comes_to(self):
        draw = random.Random(2)
        for web in small_webs(200, many=15, seed=92):
            known = standings(web)
            for asks in some_asks(draw, web):
                for purses in draw.sample(sorted(known), min(4, len(known))):
                    self.assertEqual(comes_to(web, asks, purses), come_to(known, asks, purses))
        self.assertEqual(comes_to(ROW, (), (2, 0, 3)), ((2, 0, 3),))
        web = (2, ((0, 1, 399),))
        self.assertEqual(len(comes_to(web, line_asks(web, 1), (0, 399))), 400)
        self.assertEqual(comes_to(web, ((0, 1, 150, 1),), (399, 0)), ((99, 300), (249, 150), (399, 0)))


class Runs(unittest.TestCase):
    def test_long_runs(self):
        """Shares in the equations, or the first two standings between which steps do not lead."""
        draw = random.Random(3)
        parted, whole = 0, 0
        for web in webs_solved(25, 93):
            known = standings(web)
            row = sorted(known)
            for asks in some_asks(draw, web):
                fault = first_parted(known, asks)
                if fault is not None:
                    parted += 1
                    for function in (long_run, Run(web, asks).long_shares):
                        with self.assertRaises(Parted) as caught:
                            function(web, asks) if function is long_run else function()
                        self.assertEqual((caught.exception.here, caught.exception.there), fault)
                    continue
                whole += 1
                shares = [number(share) for share in long_run(web, asks)]
                self.assertEqual(Run(web, asks).long_shares(), long_run(web, asks))
                self.assertEqual((sum(shares), len(shares)), (1, len(row)))
                self.assertTrue(all(share >= 0 for share in shares))
                for there, purses in enumerate(row):
                    rows = step_rows(web, asks)
                    goes = sum(rows[there][other] for other in range(len(row)) if other != there) * shares[there]
                    comes = sum(rows[other][there] * shares[other] for other in range(len(row)) if other != there)
                    self.assertEqual(goes, comes)
        self.assertTrue(parted > 20 and whole > 20)

    def test_edges(self):
        self.assertEqual((long_run((1, ()), ()), long_run((3, ()), ((0, 2, 5, 1),))), (((1, 1),), ((1, 1),)))
        with self.assertRaises(Parted) as caught:
            long_run(TWICE, ())
        self.assertEqual((caught.exception.here, caught.exception.there), ((0, 3), (1, 2)))
        with self.assertRaises(Parted) as caught:
            long_run(TWICE, ((0, 1, 1, 1),))
        self.assertEqual((caught.exception.here, caught.exception.there), ((0, 3), (1, 2)))
        with self.assertRaises(Parted) as caught:
            long_run(TWICE, ((1, 0, 1, 1),))
        self.assertEqual((caught.exception.here, caught.exception.there), ((1, 2), (0, 3)))
        self.assertEqual(long_run(TWICE, ((0, 1, 2, 1), (1, 0, 1, 1))), ((1, 5), (2, 5), (1, 5), (1, 5)))

    def test_even(self):
        """Asks alike both ways, one coin along each line among them, have the even run."""
        draw = random.Random(4)
        for web in webs_solved(15, 94):
            asks = asks_both(web[0], asks_from([*line_asks(web, 3), *random_rows(draw, web[0], 3)]))
            many = len(standings(web))
            self.assertEqual(long_run(web, asks), ((1, many),) * many)

    def test_many_standings(self):
        """Twenty-four standings and great weights."""
        draw = random.Random(5)
        for web in ((2, ((0, 1, 23),)), (3, ((0, 1, 5), (1, 2, 3))), (4, ((0, 1, 2), (1, 2, 3), (1, 3, 1)))):
            row = sorted(standings(web))
            self.assertEqual(len(row), 24)
            asks = asks_from([(*ask[:3], draw.randint(1, 10 ** 6)) for ask in line_asks(web, 1)]
                             + random_rows(draw, web[0], 10, 12))
            shares = [number(share) for share in long_run(web, asks)]
            rows = step_rows(web, asks)
            for there in range(24):
                self.assertEqual(sum(rows[other][there] * shares[other] for other in range(24)),
                                 sum(rows[there]) * shares[there])
            ask = asks[0][:3]
            self.assertEqual(number(mean_wait(web, asks, *ask)) * number(asked_refused(web, asks, *ask)),
                             Fraction(sum(one[3] for one in asks), asks[0][3]))

    def test_refused(self):
        draw = random.Random(6)
        for web in webs_solved(15, 95):
            known = standings(web)
            row = sorted(known)
            for asks in some_asks(draw, web):
                for payer, payee, coins, _ in random_rows(draw, web[0], 3) + list(asks[:2]):
                    fault = first_parted(known, asks)
                    if fault is not None:
                        with self.assertRaises(Parted) as caught:
                            asked_refused(web, asks, payer, payee, coins)
                        self.assertEqual((caught.exception.here, caught.exception.there), fault)
                        continue
                    shares = long_run(web, asks)
                    due = sum((number(share) for purses, share in zip(row, shares)
                               if moved(purses, payer, payee, coins) not in known), Fraction(0))
                    self.assertEqual(asked_refused(web, asks, payer, payee, coins), told(due))
                    self.assertEqual(Run(web, asks).refused(payer, payee, coins), told(due))
        self.assertEqual(asked_refused(ONE, ASKED, 0, 1, HUGE), (1, 1))

    def test_asks_back(self):
        """Turned over, the long run is that of the asks back."""
        draw = random.Random(7)
        for web in webs_solved(12, 96):
            known = standings(web)
            for asks in some_asks(draw, web):
                back = asks_back(web[0], asks)
                if first_parted(known, asks) is not None:
                    with self.assertRaises(Parted):
                        long_run(web, back)
                    continue
                shares = dict(zip(sorted(known), long_run(web, asks)))
                for purses, share in zip(sorted(known), long_run(web, back)):
                    self.assertEqual(shares[turned_purses(web, purses)], share)


class Balances(unittest.TestCase):
    def test_gaps(self):
        draw = random.Random(8)
        for web in small_webs(100, many=15, seed=97):
            known = standings(web)
            bends = random_bends(draw, web[0])
            cases = some_asks(draw, web)
            if web[0] > 1:
                cases.append(asks_from(fitting_rows(draw, web, bends)))
            for asks in cases:
                gaps = [gap(known, asks, bends, purses) for purses in sorted(known)]
                self.assertEqual([gap_at(web, asks, bends, purses) for purses in sorted(known)], [told(one) for one in gaps])
                self.assertIs(is_lasting(web, asks, bends), not any(gaps))
                if asks_fit(web[0], asks, bends):
                    self.assertIs(is_lasting(web, asks, bends), True)

    def test_bent_runs(self):
        draw = random.Random(9)
        for web in small_webs(100, many=15, seed=98):
            for greatest in (5, 10 ** 12):
                bends = random_bends(draw, web[0], greatest)
                weights = []
                for purses in sorted(standings(web)):
                    weight = Fraction(1)
                    for bend, purse in zip(bends, purses):
                        weight *= Fraction(*bend) ** purse
                    weights.append(weight)
                self.assertEqual(bent_run(web, bends), tuple(told(weight / sum(weights)) for weight in weights))

    def test_lasting_runs(self):
        """A bent run lasts just if it stays as it is by a step."""
        draw = random.Random(10)
        seen = set()
        for web in webs_solved(25, 99):
            bends = random_bends(draw, web[0])
            cases = some_asks(draw, web)
            if web[0] > 1:
                cases.append(asks_from(fitting_rows(draw, web, bends)))
            for asks in cases:
                shares = [number(share) for share in bent_run(web, bends)]
                rows = step_rows(web, asks)
                stays = all(
                    sum(row[there] * share for row, share in zip(rows, shares)) == sum(rows[there]) * shares[there]
                    for there in range(len(rows)))
                self.assertIs(is_lasting(web, asks, bends), stays)
                seen.add((stays, asks_fit(web[0], asks, bends)))
        self.assertTrue({(True, True), (False, False)} <= seen)

    def test_lasting_without_fit(self):
        """On a web that is not wide a bent run may be a long run though the asks do not fit."""
        asks = ((0, 1, 1, 2), (0, 1, 2, 1), (1, 0, 1, 1))
        self.assertIs(asks_fit(2, asks, ((1, 1), (2, 1))), False)
        self.assertIs(is_lasting(ONE, asks, ((1, 1), (2, 1))), True)

    def test_great(self):
        bends = tuple(told(Fraction(10 ** 12 - place, 10 ** 12 - 50 + 3 * place)) for place in range(8))
        draw = random.Random(11)
        asks = asks_from(random_rows(draw, 8, 24, 12))
        for seed in range(2):
            web = great_web(seed)
            _, purses = some_standing(web, seed)
            due = sum((term(asks, bends, *ask) for ask in {row[:3] for row in (*asks, *asks_back(8, asks))}), Fraction(0))
            self.assertEqual(gap_at(web, asks, bends, purses), told(due))
        run = bent_run((2, ((0, 1, 60),)), bends[:2])
        self.assertEqual(sum(number(share) for share in run), 1)

    def test_one_factor_more(self):
        draw = random.Random(12)
        for web in webs_solved(8, 100):
            bends = random_bends(draw, web[0])
            more = tuple(told(Fraction(*bend) * Fraction(6, 35)) for bend in bends)
            asks = some_asks(draw, web)[4]
            self.assertEqual(bent_run(web, bends), bent_run(web, more))
            for purses in standings(web):
                self.assertEqual(gap_at(web, asks, bends, purses), gap_at(web, asks, more, purses))

    def test_edges(self):
        one = (1, ())
        self.assertEqual((bent_run(one, ((7, 3),)), gap_at(one, (), ((7, 3),), (0,))), (((1, 1),), (0, 1)))
        self.assertEqual(bent_run((2, ()), ((7, 3), (1, 10 ** 12))), ((1, 1),))
        self.assertIs(is_lasting(one, (), ((7, 3),)), True)
        self.assertIs(is_lasting((2, ()), ASKED, ((1, 1), (1, 1))), True)
        self.assertEqual(gap_at(ONE, ((0, 1, 1, 1),), ((1, 1), (5, 1)), (0, 1)), (-1, 5))


class Waits(unittest.TestCase):
    def test_waits(self):
        """Put into their equations: one step, and then the wait from there, but for the awaited one."""
        draw = random.Random(13)
        for web in webs_solved(15, 101):
            known = standings(web)
            row = sorted(known)
            for asks in some_asks(draw, web):
                whole = sum(ask[3] for ask in asks)
                for ask in asks:
                    waits = dict(zip(row, [number(wait) for wait in waits_of(web, asks, *ask[:3])]))
                    self.assertEqual(len(waits), len(row))
                    for purses in row:
                        due = Fraction(whole)
                        for other in asks:
                            after = step(known, purses, other)
                            if other[:3] != ask[:3] or after != purses:
                                due += other[3] * waits[after]
                        self.assertEqual(waits[purses] * whole, due)
                    self.judge_mean(web, asks, ask, known, waits)

    def judge_mean(self, web, asks, ask, known, waits):
        fault = first_parted(known, asks)
        if fault is not None:
            for function in (lambda: mean_wait(web, asks, *ask[:3]), lambda: Run(web, asks).wait(*ask[:3])):
                with self.assertRaises(Parted) as caught:
                    function()
                self.assertEqual((caught.exception.here, caught.exception.there), fault)
            return
        shares = dict(zip(sorted(known), [number(share) for share in long_run(web, asks)]))
        ends = [purses for purses in known if step(known, purses, ask) == purses]
        mean = sum(shares[purses] * waits[purses] for purses in ends) / sum(shares[purses] for purses in ends)
        self.assertEqual(mean_wait(web, asks, *ask[:3]), told(mean))
        self.assertEqual(Run(web, asks).wait(*ask[:3]), told(mean))
        refused = number(asked_refused(web, asks, *ask[:3]))
        self.assertEqual(mean * refused, Fraction(sum(row[3] for row in asks), ask[3]))

    def test_edges(self):
        self.assertEqual(waits_of((2, ()), ASKED, 0, 1, 1), ((5, 3),))
        self.assertEqual(mean_wait((2, ()), ASKED, 1, 0, 1), (5, 2))
        self.assertEqual(waits_of(ONE, ((0, 1, 1, 4),), 0, 1, 1), ((1, 1), (2, 1)))
        self.assertEqual(mean_wait(ONE, ASKED, 0, 1, 1), (25, 9))

    def test_not_among_asks(self):
        for call in ((0, 1, 2), (1, 0, 3)):
            for function in (waits_of, mean_wait):
                with self.assertRaises(NotUsable) as caught:
                    function(ONE, ASKED, *call)
                self.assertEqual((caught.exception.word, caught.exception.at), ("coins", -1))
        with self.assertRaises(NotUsable) as caught:
            mean_wait(ONE, ((0, 1, 1, 1),), 1, 0, 1)
        self.assertEqual((caught.exception.word, caught.exception.at), ("coins", -1))
        with self.assertRaises(Parted):
            mean_wait(ONE, ((0, 1, 1, 1),), 0, 1, 1)
        with self.assertRaises(NotUsable):
            asked_refused(ONE, (), 0, 0, 1)


class Objects(unittest.TestCase):
    def test_equal(self):
        run = Run(ONE, ASKED)
        self.assertTrue(run == Run(web=(2, ((0, 1, 1),)), asks=tuple(list(ASKED))))
        for other in (Run(TWICE, ASKED), Run(ONE, ()), Run(ONE, ASKED[:1]), (ONE, ASKED), None, 1):
            self.assertFalse(run == other)
            self.assertTrue(run != other)

    def test_back(self):
        run = Run(RING, ((0, 1, 1, 3), (2, 0, 2, 2)))
        self.assertTrue(run.back() == Run(RING, ((0, 2, 2, 2), (1, 0, 1, 3))))
        self.assertTrue(run.back().back() == run)
        self.assertIs(Run(ONE, ASKED).fits(((2, 1), (3, 1))), True)
        self.assertIs(Run(ONE, ASKED).back().fits(((2, 1), (3, 1))), False)
        self.assertIs(Run(ONE, ASKED).back().fits(((1, 2), (1, 3))), True)

    def test_wrong(self):
        for web in (None, 3, (), (0, ()), [2, ()], (2, ((1, 0, 1),))):
            with self.assertRaises(NotUsable) as caught:
                Run(web, None)
            self.assertEqual((caught.exception.word, caught.exception.at), ("web", -1))
        with self.assertRaises(NotUsable) as caught:
            Run((1, ()), ASKED)
        self.assertEqual((caught.exception.word, caught.exception.at), ("asks", -1))


if __name__ == "__main__":
    unittest.main()
