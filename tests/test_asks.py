"""Asks: what they are, changed, answered one after the other, and their texts."""

import random
import unittest
from itertools import product

from askreckon import asks_from, random_rows
from reckon import HUGE, RING, ROW, TWICE, great_web, most, moved, purses_at, small_webs, some_standing, splits, standings
from howeverled.askchanges import alike_both, asks_back, asks_both, asks_of, line_asks
from howeverled.askkinds import asks_weight, is_ask, is_asks, weight_in
from howeverled.asktexts import asks_line, read_asks
from howeverled.errors import InvalidText, NotUsable
from howeverled.running import after_ask, led_run, run_of
from howeverled.webs import bond_of

ASKED = ((0, 1, 1, 3), (1, 0, 1, 2))


class Kinds(unittest.TestCase):
    def test_is_ask(self):
        for size in (1, 2, 3):
            for payer, payee, coins in product(range(-1, 4), range(-1, 4), (-1, 0, 1, 12, HUGE)):
                told = 0 <= payer < size and 0 <= payee < size and payer != payee and coins >= 1
                self.assertIs(is_ask(size, (payer, payee, coins)), told)
        for thing in (None, (), 3, "012", [0, 1, 1], (0, 1), (0, 1, 1, 1), (False, 1, 1), (0, True, 1), (0, 1, True),
                      (0, 1, None), ((0,), 1, 1), (0, 1, "1")):
            self.assertIs(is_ask(3, thing), False, thing)

    def test_is_asks(self):
        draw = random.Random(1)
        for size in (1, 2, 3, 5):
            for _ in range(40):
                self.assertIs(is_asks(size, asks_from(random_rows(draw, size, draw.randint(0, 8)))), True)
        for thing in (None, [], 3, "-", (None,), ((0, 1, 1),), ([0, 1, 1, 1],), ((0, 1, 1, 1, 1),), ((0, 0, 1, 1),),
                      ((0, 3, 1, 1),), ((0, 1, 0, 1),), ((0, 1, 1, 0),), ((0, 1, 1, True),), ((0, 1, True, 1),),
                      ((0, True, 1, 1),), ((0, 1, 1, 1), (0, 1, 1, 1)), ((0, 1, 1, 1), (0, 1, 1, 2)),
                      ((0, 1, 1, 2), (0, 1, 1, 1)), ((1, 0, 1, 1), (0, 1, 1, 1)), ((0, 2, 1, 1), (0, 1, 1, 1)),
                      ((0, 1, 2, 1), (0, 1, 1, 1)), ((0, 1, 1, 1), [0, 2, 1, 1]), [(0, 1, 1, 1)]):
            self.assertIs(is_asks(3, thing), False, thing)
        for thing in ((), ((0, 1, 1, 1),), ((0, 1, 1, 9), (0, 1, 2, 1), (0, 2, 1, 1), (1, 0, 1, 10 ** 6))):
            self.assertIs(is_asks(3, thing), True, thing)

    def test_weights(self):
        draw = random.Random(2)
        for _ in range(30):
            rows = random_rows(draw, 4, 7)
            asks = asks_of(4, *rows)
            self.assertEqual(asks_weight(4, asks), sum(row[3] for row in rows))
            for payer, payee, coins in product(range(4), range(4), range(1, 5)):
                if payer != payee:
                    told = sum(row[3] for row in rows if row[:3] == (payer, payee, coins))
                    self.assertEqual(weight_in(4, asks, payer, payee, coins), told)
        self.assertEqual((asks_weight(1, ()), weight_in(2, (), 0, 1, HUGE)), (0, 0))


class Changes(unittest.TestCase):
    def test_rows(self):
        draw = random.Random(3)
        for size in (2, 3, 6):
            for _ in range(30):
                rows = random_rows(draw, size, draw.randint(0, 10))
                asks = asks_of(size, *rows)
                self.assertEqual(asks, asks_from(rows))
                self.assertIs(is_asks(size, asks), True)
                back = asks_back(size, asks)
                self.assertEqual(back, asks_from([(row[1], row[0], *row[2:]) for row in rows]))
                self.assertEqual(asks_back(size, back), asks)
                self.assertEqual(asks_both(size, asks), asks_from([*asks, *back]))
                self.assertIs(alike_both(size, asks_both(size, asks)), True)
                self.assertIs(alike_both(size, asks), back == asks)
        self.assertEqual(asks_of(3), ())
        self.assertEqual(asks_of(3, (2, 0, 1, 4), (0, 1, 2, 1), (2, 0, 1, 5)), ((0, 1, 2, 1), (2, 0, 1, 9)))
        self.assertEqual((asks_back(1, ()), asks_both(2, ()), alike_both(2, ())), ((), (), True))
        self.assertEqual(asks_back(2, ASKED), ((0, 1, 1, 2), (1, 0, 1, 3)))
        self.assertEqual((alike_both(2, ASKED), alike_both(2, ((0, 1, 1, 3), (1, 0, 1, 3)))), (False, True))
        self.assertIs(alike_both(2, ((0, 1, 1, 3), (1, 0, 2, 3))), False)

    def test_lines(self):
        for web in small_webs(300, many=20, seed=81):
            asks = line_asks(web, 7)
            self.assertIs(is_asks(web[0], asks), True)
            told = [(one, other, 1, 7) for one in range(web[0]) for other in range(web[0])
                    if one != other and bond_of(web, one, other) > 0]
            self.assertEqual(asks, tuple(told))
        self.assertEqual(line_asks(TWICE, 10 ** 6), ((0, 1, 1, 10 ** 6), (1, 0, 1, 10 ** 6)))
        self.assertEqual(line_asks((3, ()), 1), ())


class Running(unittest.TestCase):
    def test_runs(self):
        draw = random.Random(4)
        for web in small_webs(60, many=20, seed=82):
            size = web[0]
            known = standings(web)
            for split in draw.sample(splits(web), min(5, len(splits(web)))):
                purses = purses_at(web, split)
                calls = tuple(row[:3] for row in random_rows(draw, size, 12, 4))
                now, answers = purses, []
                for call in calls:
                    paid = most(known, now, *call[:2]) >= call[2]
                    after = moved(now, *call) if paid else now
                    self.assertEqual(after_ask(web, now, *call), (paid, after))
                    now = after
                    answers.append(paid)
                told = run_of(web, purses, calls)
                self.assertEqual(told, (tuple(answers), now))
                self.assertTrue(all(answer in (True, False) and isinstance(answer, bool) for answer in told[0]))
                for rule in ("short", "wide", "ones"):
                    heard, last = led_run(web, split, calls, rule)
                    self.assertEqual(heard, tuple(answers))
                    self.assertIn(last, known[now])

    def test_edges(self):
        self.assertEqual(run_of(ROW, (2, 0, 3), ()), ((), (2, 0, 3)))
        self.assertEqual(led_run(ROW, (2, 0), (), "wide"), ((), (2, 0)))
        self.assertEqual(led_run((1, ()), (), (), "ones"), ((), ()))
        self.assertEqual(after_ask((2, ()), (0, 0), 1, 0, 1), (False, (0, 0)))
        self.assertEqual(after_ask(ROW, (2, 0, 3), 2, 1, HUGE), (False, (2, 0, 3)))
        self.assertEqual(led_run(ROW, (2, 0), ((0, 2, 1), (2, 0, 1)), "ones"), ((False, False), (2, 0)))

    def test_great_webs(self):
        """By all rules the same is paid and refused, and the same purses are left."""
        draw = random.Random(5)
        for seed in range(3):
            web = great_web(seed)
            split, purses = some_standing(web, seed)
            calls = tuple((*draw.sample(range(8), 2), draw.randint(1, HUGE)) for _ in range(40))
            answers, last = run_of(web, purses, calls)
            for rule in ("short", "wide"):
                heard, after = led_run(web, split, calls, rule)
                self.assertEqual((heard, purses_at(web, after)), (answers, last))
            self.assertTrue(True in answers and False in answers)

    def test_wrong(self):
        """What is not as stated is named ahead of what is asked of it."""
        for call in (None, (0, 1), (0, 0, 1), (0, 1, True), [0, 1, 1], (0, 3, 1), (0, 1, 0), (0, 1, 1, 1)):
            with self.assertRaises(NotUsable) as caught:
                run_of(ROW, (2, 0, 3), ((0, 2, 1), call))
            self.assertEqual((caught.exception.word, caught.exception.at), ("calls", -1))
            with self.assertRaises(NotUsable) as caught:
                led_run(ROW, (2, 0), ((0, 2, 1), call), None)
            self.assertEqual(caught.exception.word, "calls")


def first_fault(size, text):
    """The place of the first field that can't stand there, None for asks: by the words of the document."""
    fields = text.split(" ")
    if fields[0] == "-":
        return None if len(fields) == 1 else 1
    ahead = None
    row = []
    for place, field in enumerate(fields):
        at = len(row)
        last = at == 3 and not field.endswith(";")
        figures = field[:-1] if at == 3 and not last else field
        if not figures.isascii() or not figures.isdigit() or str(int(figures)) != figures:
            return place
        number = int(figures)
        if at == 0 and not (number < size and (ahead is None or number >= ahead[0])):
            return place
        if at == 1 and not (number < size and number != row[0]):
            return place
        if at == 1 and ahead is not None and row[0] == ahead[0] and number < ahead[1]:
            return place
        if at == 2 and (number < 1 or (ahead is not None and tuple(row) == ahead[:2] and number <= ahead[2])):
            return place
        if at == 3 and number < 1:
            return place
        row.append(number)
        if at == 3:
            ahead, row = tuple(row), []
            if last:
                return None if place + 1 == len(fields) else place + 1
    return len(fields)


class Texts(unittest.TestCase):
    def test_there_and_back(self):
        draw = random.Random(6)
        for size in (1, 2, 3, 12):
            for _ in range(40):
                asks = asks_from(random_rows(draw, size, draw.randint(0, 8)))
                told = "; ".join(" ".join(str(number) for number in row) for row in asks) or "-"
                self.assertEqual(asks_line(size, asks), told)
                self.assertEqual(read_asks(size, told), asks)
        self.assertEqual((asks_line(1, ()), read_asks(1, "-"), read_asks(40, "39 0 1 1")), ("-", (), ((39, 0, 1, 1),)))

    def wrong(self, size, text, field):
        with self.assertRaises(InvalidText, msg=text) as caught:
            read_asks(size, text)
        self.assertEqual((caught.exception.line, caught.exception.field), (0, field), text)

    def test_spoilt(self):
        """Each field replaced by each of many others, left out, put in twice, and the text cut short."""
        draw = random.Random(7)
        others = ["", "-", ";", "0", "1", "2", "3", "0;", "1;", "7;", "00", "01", "01;", "1;;", "-1", "+1", "x", "9" * 40]
        for size in (2, 3, 4):
            for _ in range(25):
                fields = asks_line(size, asks_from(random_rows(draw, size, draw.randint(0, 5)))).split(" ")
                texts = [fields[:cut] for cut in range(1, len(fields))]
                texts += [[*fields, ""], [*fields, "0"], ["", *fields], ["-", *fields]]
                for place in range(len(fields)):
                    texts += [[*fields[:place], other, *fields[place + 1:]] for other in others]
                    texts += [[*fields[:place], *fields[place + 1:]], [*fields[:place + 1], *fields[place:]]]
                for spoilt in texts:
                    text = " ".join(spoilt)
                    told = first_fault(size, text)
                    if told is None:
                        self.assertEqual(asks_line(size, read_asks(size, text)), text)
                    else:
                        self.wrong(size, text, told)

    def test_told_faults(self):
        for text, field in (
            ("", 0), (" ", 0), ("--", 0), ("- ", 1), ("- 0", 1), ("0", 1), ("0 1 1", 3), ("0 1 1 ", 3), ("0 1 1 0", 3), ("0 1 1 01", 3),
            ("0 1 0 1", 2), ("0 0 1 1", 1), ("3 0 1 1", 0), ("0 3 1 1", 1), ("0 1 1 3;", 4), ("0 1 1 3; ", 4), ("0 1 1 3 0", 4),
            ("0 1 1 3;;", 3), ("0; 1 1 3", 0), ("0 1 1 3; 0 1 1 4", 6), ("0 1 2 3; 0 1 1 4", 6), ("0 2 1 3; 0 1 1 4", 5),
            ("1 0 1 3; 0 1 1 4", 4), ("0 1 1 3; 1 1 1 2", 5), ("0 1 1 3; -", 4), ("00 1 1 3", 0), ("0 1 1 3; 0 1 2 ;", 7),
        ):
            self.wrong(3, text, field)
        self.assertEqual(read_asks(3, "0 2 5 3; 1 0 1 1"), ((0, 2, 5, 3), (1, 0, 1, 1)))
        self.assertEqual(read_asks(3, "0 1 5 3; 0 2 1 1"), ((0, 1, 5, 3), (0, 2, 1, 1)))

    def test_one_house(self):
        """One house can be a payer, but there is no payee."""
        self.wrong(1, "0", 1)
        self.wrong(1, "0 0 1 1", 1)
        self.wrong(1, "1", 0)


class Webs(unittest.TestCase):
    def test_calls_of_many_coins(self):
        calls = ((0, 1, HUGE), (1, 0, 10 ** 30), (2, 0, 1))
        self.assertEqual(run_of(RING, (1, 1, 1), calls), ((False, False, True), (2, 1, 0)))


if __name__ == "__main__":
    unittest.main()
