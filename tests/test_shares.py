"""At how many standings this or that is so: by all splits of small webs, by all forests of great ones."""

import unittest
from fractions import Fraction
from itertools import combinations, product

from reckon import (
    EDGES, HUGE, RING, ROW, TWICE, forests, great_web, joining_by, kept, lots, most, moved, small_webs, some_standing,
    splits, standings,
)
from howeverled.allcounts import all_pay_count, both_count, class_count, class_table, neither_count
from howeverled.chaincounts import busy_count, chain_count, idle_count
from howeverled.errors import NotUsable
from howeverled.forestweights import forest_weight
from howeverled.joinings import joinings_of
from howeverled.linemeans import line_shares, lines_mean, purse_mean
from howeverled.pairshares import refused_count, refused_share, refused_table
from howeverled.reachcounts import joined_count, peel_count, reach_count, reach_mean, reach_table
from howeverled.reaches import classes_of, peel_of, reach_of
from howeverled.shareclasses import Shares
from howeverled.slacks import shut_lots
from howeverled.stretches import stretch_at, stretch_of, stretch_table
from howeverled.webchanges import beside, made_one, with_line
from howeverled.webs import bond_of, hold_of, rooms_of

WEBS = small_webs(60, many=30, seed=61)
RETURNED = with_line(with_line(beside(great_web(1), great_web(2)), 0, 8, 4), 7, 15, HUGE)


def quotient(part, whole):
    told = Fraction(part, whole)
    return (told.numerator, told.denominator)


def pairs(size):
    return [(one, other) for one in range(size) for other in range(size) if one != other]


def can_pay(known, purses, size):
    """Who can pay whom one coin, by all standings."""
    return {(one, other) for one, other in pairs(size) if moved(purses, one, other, 1) in known}


class Refusals(unittest.TestCase):
    def test_counts(self):
        for web in WEBS:
            known = standings(web)
            for one, other in pairs(web[0]):
                for coins in (*range(1, rooms_of(web) + 3), HUGE):
                    told = sum(1 for purses in known if moved(purses, one, other, coins) not in known)
                    self.assertEqual(refused_count(web, one, other, coins), told)
                    self.assertEqual(refused_share(web, one, other, coins), quotient(told, len(known)))

    def test_table(self):
        for web in WEBS:
            size, _ = web
            rows = []
            for one in range(size):
                row = [(0, 1) if one == other else refused_share(web, one, other, 1) for other in range(size)]
                rows.append(tuple(row))
            self.assertEqual(refused_table(web), tuple(rows))
        self.assertEqual(refused_table((1, ())), (((0, 1),),))
        self.assertEqual(refused_table((2, ())), (((0, 1), (1, 1)), ((1, 1), (0, 1))))

    def test_many_coins(self):
        """Up to one above the bond no standings are gone through."""
        for seed in range(2):
            web = great_web(seed)
            all_of = forests(web)
            whole = sum(weight for _, weight, _ in all_of)
            for one, other in pairs(8):
                apart = sum(weight for _, weight, joined in all_of if joined[one] != joined[other])
                bond = bond_of(web, one, other)
                for coins in {1, min(2, bond + 1), bond // 2 + 1, max(bond, 1), bond + 1}:
                    self.assertEqual(refused_count(web, one, other, coins), coins * apart)
                    self.assertEqual(refused_share(web, one, other, coins), quotient(coins * apart, whole))
                self.assertEqual(refused_table(web)[one][other], quotient(apart, whole))

    def test_returned_webs(self):
        whole = forest_weight(RETURNED)
        table = refused_table(RETURNED)
        for one, other in ((0, 15), (3, 11), (8, 9)):
            told = forest_weight(made_one(RETURNED, one, other))
            self.assertEqual(refused_count(RETURNED, one, other, 1), told)
            self.assertEqual((table[one][other], table[other][one]), (quotient(told, whole),) * 2)


class Stretches(unittest.TestCase):
    def test_against_all_standings(self):
        for web in WEBS:
            known = standings(web)
            for one, other in pairs(web[0]):
                found = {}
                for purses in known:
                    place, back = most(known, purses, one, other), most(known, purses, other, one)
                    length = place + back
                    self.assertEqual(stretch_at(web, purses, one, other), (place, length))
                    first = moved(purses, one, other, place)
                    row = [moved(first, other, one, coins) for coins in range(length + 1)]
                    self.assertEqual(list(stretch_of(web, purses, one, other)), row)
                    self.assertEqual(row[place], purses)
                    found[first] = length
                lengths = sorted(found.values())
                told = tuple((length, lengths.count(length)) for length in sorted(set(lengths)))
                self.assertEqual(stretch_table(web, one, other), told)
                self.assertEqual(len(lengths), forest_weight(made_one(web, one, other)))
                self.assertEqual(lengths[0], bond_of(web, one, other))

    def test_sums(self):
        """The counts of refusals are sums over the stretches."""
        for web in WEBS[:25]:
            for one, other in pairs(web[0]):
                table = stretch_table(web, one, other)
                for coins in (1, 2, 3, 5, 100):
                    told = sum(many * min(coins, length + 1) for length, many in table)
                    self.assertEqual(refused_count(web, one, other, coins), told)

    def test_great(self):
        web = (2, ((0, 1, HUGE), (0, 1, HUGE)))
        self.assertEqual(stretch_at(web, (5, 2 * HUGE - 5), 0, 1), (5, 2 * HUGE))
        web = (3, ((0, 1, HUGE), (1, 2, 300)))
        row = list(stretch_of(web, (7, HUGE + 200, 93), 2, 1))
        self.assertEqual((len(row), row[0], row[93], row[-1]), (
            301, (7, HUGE + 293, 0), (7, HUGE + 200, 93), (7, HUGE - 7, 300)))
        for seed in range(3):
            web = great_web(seed)
            _, purses = some_standing(web, seed)
            place, length = stretch_at(web, purses, 2, 5)
            self.assertEqual(stretch_at(web, purses, 5, 2), (length - place, length))
            self.assertEqual(stretch_at(web, moved(purses, 2, 5, place), 2, 5), (0, length))

    def test_generators_wait(self):
        made = stretch_of(ROW, (2, 0, 3), 1, 1)
        with self.assertRaises(NotUsable) as caught:
            next(made)
        self.assertEqual(caught.exception.word, "there")


class Reaches(unittest.TestCase):
    def test_against_all_standings(self):
        for web in WEBS:
            size, _ = web
            known = standings(web)
            for house in range(size):
                found = [reach_of(web, purses, house) for purses in known]
                told = tuple((lot, found.count(lot)) for lot in sorted(set(found)))
                self.assertEqual(reach_table(web, house), told)
                self.assertEqual(reach_mean(web, house), quotient(sum(len(lot) for lot in found), len(known)))
                for lot in lots(size):
                    self.assertEqual(reach_count(web, house, lot), found.count(lot))
                    if house in lot:
                        can = sum(1 for reach in found if set(lot) <= set(reach))
                        self.assertEqual(joined_count(web, lot), can)
            for order in (tuple(range(size)), tuple(reversed(range(size)))):
                peels = [peel_of(web, purses, order) for purses in known]
                for joining in joinings_of(size):
                    self.assertEqual(peel_count(web, joining), peels.count(joining))

    def test_great_webs(self):
        web = great_web(3)
        all_of = forests(web)
        whole = sum(weight for _, weight, _ in all_of)
        clubs = {}
        for _, weight, joined in all_of:
            clubs[joined] = clubs.get(joined, 0) + weight
        for lot in lots(8)[1::3]:
            told = sum(weight for joined, weight in clubs.items() if len({joined[house] for house in lot}) == 1)
            self.assertEqual(joined_count(web, lot), told)
        for house in (0, 5):
            sums, mean = {}, 0
            for joined, weight in clubs.items():
                lot = tuple(other for other in range(8) if joined[other] == joined[house])
                sums[lot] = sums.get(lot, 0) + weight
                mean += weight * len(lot)
            self.assertEqual(reach_table(web, house), tuple(sorted(sums.items())))
            self.assertEqual(reach_mean(web, house), quotient(mean, whole))
            for lot in lots(8)[::5]:
                self.assertEqual(reach_count(web, house, lot), sums.get(lot, 0))
        for joining in list(clubs)[::7]:
            self.assertEqual(peel_count(web, joining), clubs[joining])
        self.assertEqual(sum(peel_count(web, joining) for joining in clubs), whole)

    def test_returned_webs(self):
        whole = forest_weight(RETURNED)
        self.assertEqual(joined_count(RETURNED, (3,)), whole)
        top, bottom = reach_mean(RETURNED, 3)
        self.assertTrue(bottom < top < 16 * bottom)
        self.assertEqual(peel_count(RETURNED, tuple(range(16))), 1)
        self.assertEqual(reach_count(RETURNED, 4, tuple(range(16))), joined_count(RETURNED, tuple(range(16))))
        self.assertEqual(reach_count(RETURNED, 4, (0, 1, 2)), 0)

    def test_edges(self):
        one = (1, ())
        self.assertEqual((joined_count(one, (0,)), reach_table(one, 0), reach_mean(one, 0)), (1, (((0,), 1),), (1, 1)))
        self.assertEqual((reach_count(ROW, 0, ()), reach_count(ROW, 0, (1, 2)), peel_count(one, (0,))), (0, 0, 1))
        self.assertEqual(peel_count(ROW, (0, 1, 0)), 0)


def chains(size):
    """All rows of lots, each within the next one, none () or of all houses."""
    inner = [lot for lot in lots(size) if 0 < len(lot) < size]
    found = [()]
    for row in found:
        for lot in inner:
            if not row or set(row[-1]) < set(lot):
                found.append((*row, lot))
    return found


class Lots(unittest.TestCase):
    def test_against_all_standings(self):
        for web in [web for web in WEBS if web[0] <= 4]:
            size, _ = web
            known = standings(web)
            shut = [shut_lots(web, purses) for purses in known]
            for row in chains(size):
                told = sum(1 for found in shut if all(lot in found for lot in row))
                self.assertEqual(chain_count(web, row), told)

    def test_purses(self):
        for web in WEBS:
            known = standings(web)
            for lot in lots(web[0]):
                told = sum(1 for purses in known if not any(purses[house] for house in lot))
                self.assertEqual(idle_count(web, lot), told)
            self.assertEqual(busy_count(web), sum(1 for purses in known if 0 not in purses))

    def test_great_webs(self):
        web = great_web(4)
        all_of = forests(web)
        lines = web[1]
        for row in ((), ((3,),), ((0, 1, 5),), ((2,), (2, 4, 7), (0, 1, 2, 4, 7)), ((6,), (0, 1, 2, 3, 4, 5, 6))):
            layer = {house: sum(house not in lot for lot in row) for house in range(8)}
            told = sum(weight for places, weight, _ in all_of
                       if all(layer[lines[place][0]] == layer[lines[place][1]] for place in places))
            self.assertEqual(chain_count(web, row), told)
        busy = 0
        for lot in lots(8):
            linked = any(one in lot and other in lot for one, other, _ in lines)
            told = 0 if linked else sum(
                weight for places, weight, _ in all_of
                if not any(lines[place][0] in lot or lines[place][1] in lot for place in places))
            self.assertEqual(idle_count(web, lot), told)
            busy += told * (-1) ** len(lot)
        self.assertEqual(busy_count(web), busy)

    def test_edges(self):
        one = (1, ())
        self.assertEqual((chain_count(one, ()), idle_count(one, ()), idle_count(one, (0,)), busy_count(one)), (1, 1, 1, 0))
        self.assertEqual((chain_count((2, ()), ((1,),)), idle_count((3, ()), (0, 1, 2)), busy_count((3, ()))), (1, 1, 0))
        self.assertEqual(busy_count((2, ((0, 1, HUGE),))), HUGE - 1)
        self.assertEqual(chain_count(RETURNED, (tuple(range(8)),)),
                         forest_weight(kept(RETURNED, range(8))) * forest_weight(kept(RETURNED, range(8, 16))))
        self.assertEqual(idle_count(RETURNED, (0,)), forest_weight(kept(RETURNED, range(1, 16))))


def directions(many, links):
    """In how many ways the links can be directed so that no row leads back, by trying all."""
    count = 0
    for sides in product((0, 1), repeat=len(links)):
        left = [link if side else link[::-1] for link, side in zip(links, sides)]
        houses = set(range(many))
        while houses:
            ends = {house for house in houses if not any(one == house for one, _ in left)}
            if not ends:
                break
            houses -= ends
            left = [link for link in left if link[1] not in ends]
        count += not houses
    return count


def signed(web):
    """How often all can pay all, by the forests of a web that hangs together."""
    found = forests(web)
    if all(joined != (0,) * web[0] for _, _, joined in found):
        return 0
    return sum(weight * (-1) ** (web[0] - 1 - len(places)) for places, weight, _ in found)


class All(unittest.TestCase):
    def test_against_all_standings(self):
        for web in WEBS:
            size, _ = web
            known = standings(web)
            pays = [can_pay(known, purses, size) for purses in known]
            self.assertEqual(all_pay_count(web), sum(1 for found in pays if len(found) == size * (size - 1)))
            classes = [classes_of(web, purses, 1) for purses in known]
            for joining in joinings_of(size):
                self.assertEqual(class_count(web, joining), classes.count(joining))
            told = tuple((joining, classes.count(joining)) for joining in sorted(set(classes)))
            self.assertEqual(class_table(web), told)
            for one, other in pairs(size):
                both = sum(1 for found in pays if (one, other) in found and (other, one) in found)
                none = sum(1 for found in pays if (one, other) not in found and (other, one) not in found)
                self.assertEqual((both_count(web, one, other), neither_count(web, one, other)), (both, none))

    def test_great_webs(self):
        for seed in (0, 6):
            web = great_web(seed)
            self.assertEqual(all_pay_count(web), signed(web))
            whole = forest_weight(web)
            for one, other, _ in web[1]:
                self.assertEqual(neither_count(web, one, other), 0)
                told = whole - 2 * forest_weight(made_one(web, one, other))
                self.assertEqual((both_count(web, one, other), both_count(web, other, one)), (told, told))
            for blocks in (((0, 1, 2, 3, 4, 5, 6, 7),), ((0, 1), (2, 3, 4), (5, 6, 7)), tuple((one,) for one in range(8)),
                           ((0, 2, 4, 6), (1, 3, 5, 7)), ((0, 1, 2, 3), (4,), (5, 6, 7)), ((0, 7), (1, 2, 3, 4, 5, 6))):
                place = {house: at for at, block in enumerate(blocks) for house in block}
                links = sorted({tuple(sorted((place[one], place[other]))) for one, other, _ in web[1]
                                if place[one] != place[other]})
                told = directions(len(blocks), links)
                for block in blocks:
                    told *= signed(kept(web, block))
                self.assertEqual(class_count(web, joining_by(8, blocks)), told)

    def test_whole_tables(self):
        web = great_web(2, size=6, many=14)
        table = class_table(web)
        self.assertEqual(sum(count for _, count in table), forest_weight(web))
        self.assertEqual(table[0], ((0,) * 6, all_pay_count(web)))
        self.assertEqual([joining for joining, _ in table], sorted(joining for joining, _ in table))

    def test_returned_webs(self):
        """Sixteen classes of one house each: as many as there are ways to direct all links without a row leading back."""
        alone = tuple(range(16))
        tree = (16, tuple((house // 2, house, 5) for house in range(1, 16)))
        self.assertEqual(class_count(tree, alone), 2 ** 15)
        ring = (16, tuple((house, house + 1, 1) for house in range(15)) + ((0, 15, 3), (0, 15, 1)))
        self.assertEqual(class_count(ring, alone), 2 ** 16 - 2)
        twice = beside(great_web(1), great_web(2))
        told = [class_count(great_web(seed), tuple(range(8))) for seed in (1, 2)]
        self.assertEqual(class_count(twice, alone), told[0] * told[1])
        self.assertEqual(class_count(twice, (*range(8), *[8] * 8)), told[0] * all_pay_count(great_web(2)))
        self.assertEqual(class_count(RETURNED, (0,) * 16), all_pay_count(RETURNED))

    def test_edges(self):
        one = (1, ())
        self.assertEqual((all_pay_count(one), class_count(one, (0,)), class_table(one)), (1, 1, (((0,), 1),)))
        apart = (3, ())
        self.assertEqual((all_pay_count(apart), class_table(apart)), (0, (((0, 1, 2), 1),)))
        self.assertEqual((both_count(apart, 0, 2), neither_count(apart, 0, 2)), (0, 1))
        self.assertEqual((both_count(TWICE, 1, 0), neither_count(TWICE, 1, 0)), (2, 0))
        self.assertEqual(both_count((2, ((0, 1, HUGE),)), 0, 1), HUGE - 1)
        web = (3, ((0, 1, 1), (1, 2, HUGE), (0, 2, HUGE)))
        told = forest_weight(web) - 2 * forest_weight(made_one(web, 0, 1))
        self.assertEqual((both_count(web, 0, 1), neither_count(web, 1, 0)), (told, 0))


class Means(unittest.TestCase):
    def test_against_all_standings(self):
        for web in WEBS:
            known = standings(web)
            shares = []
            for one, other, _ in web[1]:
                told = sum(1 for purses in known if moved(purses, one, other, 1) not in known)
                shares.append(quotient(told, len(known)))
            self.assertEqual(line_shares(web), tuple(shares))
            mean = sum(room * Fraction(*share) for (_, _, room), share in zip(web[1], shares))
            self.assertEqual(lines_mean(web), quotient(mean, 1))
            for house in range(web[0]):
                told = quotient(sum(purses[house] for purses in known), len(known))
                self.assertEqual(purse_mean(web, house), told)

    def test_great_webs(self):
        for seed in (1, 5):
            web = great_web(seed)
            all_of = forests(web)
            whole = sum(weight for _, weight, _ in all_of)
            shares = [
                quotient(sum(weight for _, weight, joined in all_of if joined[one] != joined[other]), whole)
                for one, other, _ in web[1]
            ]
            self.assertEqual(line_shares(web), tuple(shares))
            self.assertEqual(lines_mean(web), quotient(sum(weight * len(places) for places, weight, _ in all_of), whole))
            for house in range(8):
                self.assertEqual(purse_mean(web, house), quotient(hold_of(web, house), 2))

    def test_edges(self):
        self.assertEqual((line_shares((1, ())), lines_mean((1, ())), purse_mean((1, ()), 0)), ((), (0, 1), (0, 1)))
        self.assertEqual((line_shares(TWICE), lines_mean(TWICE)), (((1, 4), (1, 4)), (3, 4)))
        self.assertEqual(len(line_shares(RETURNED)), 30)


class Objects(unittest.TestCase):
    def test_shares(self):
        for web in EDGES:
            if len(splits(web)) > 60:
                continue
            made = Shares(web)
            whole = len(standings(web))
            self.assertEqual(made.total(), whole)
            for one, other in pairs(web[0]):
                for coins in (1, 2, 5):
                    self.assertEqual(made.refused(one, other, coins), refused_share(web, one, other, coins))
                self.assertEqual(made.reach(one, (min(one, other), max(one, other))),
                                 quotient(reach_count(web, one, (min(one, other), max(one, other))), whole))
            for lot in lots(web[0])[1:]:
                self.assertEqual(made.joined(lot), quotient(joined_count(web, lot), whole))
        self.assertEqual(Shares(ROW).claim(("holds", 0, 1)), (2, 3))
        self.assertEqual(Shares(ROW).reach(0, (1,)), (0, 1))

    def test_equal(self):
        self.assertTrue(Shares(ROW) == Shares(web=(3, ((0, 1, 2), (1, 2, 3)))))
        for other in (Shares(RING), Shares((3, ROW[1][::-1])), ROW, None, 1, "x"):
            self.assertFalse(Shares(ROW) == other)
            self.assertTrue(Shares(ROW) != other)


class Consequences(unittest.TestCase):
    def test_idle_and_busy(self):
        for web in WEBS[:30]:
            told = sum(idle_count(web, lot) * (-1) ** len(lot) for lot in lots(web[0]))
            self.assertEqual(busy_count(web), told)

    def test_alike_in_both_directions(self):
        for web in WEBS[:30]:
            for one, other in combinations(range(web[0]), 2):
                for coins in (1, 2, 4):
                    self.assertEqual(refused_count(web, one, other, coins), refused_count(web, other, one, coins))


if __name__ == "__main__":
    unittest.main()
