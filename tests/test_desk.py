"""Events and logs as texts, and the desk."""

import random
import re
import unittest
from fractions import Fraction

from livebook import RULES, Book, drawn_event, right_event
from naming import Naming, spoilt
from piecereckon import share
from reckon import HUGE, bar, moved, splits, standings
from howeverled.errors import InvalidEvent, InvalidRow, InvalidText
from howeverled.eventtexts import event_line, log_text, read_event, read_log
from howeverled.desk import desk_line
from howeverled.live import LiveWeb
from howeverled.liveasks import LiveAsks
from howeverled.mosts import bar_of
from howeverled.replaying import replayed

EVENTS = (
    ("house",), ("line", 0, 1, 2, 0), ("line", 12, 1, 0, HUGE), ("widen", 0, 1, 0), ("narrow", 10, 0, 1), ("close", 0, 0),
    ("pay", 0, 1, 1), ("pay", 2, 0, 40), ("turn", 0, (0, 1), 1), ("turn", 2, (10, 2, 1), 7), ("turn", 3, (5, 5, 0, 0), 1),
    ("rule", "short"), ("rule", "wide"), ("rule", "ones"), ("day",),
)
LINES = ("house", "line 0 1 2 0", f"line 12 1 0 {HUGE}", "widen 0 1 0", "narrow 10 0 1", "close 0 0", "pay 0 1 1", "pay 2 0 40",
         "turn 0 1 0 1", "turn 2 7 10 2 1", "turn 3 1 5 5 0 0", "rule short", "rule wide", "rule ones", "day")
FIGURES = r"(?:0|[1-9][0-9]*)"
MANY = {"house": 0, "line": 4, "widen": 3, "narrow": 3, "close": 2, "pay": 3, "day": 0}
SPOILS = ("", "0", "1", "00", "01", "-1", "+1", "1.0", "x", "pay", "short", "Short", "1\n", "|", "day")


def first_wrong(text):
    """None and what the line tells; or the first field that can't stand there, or how many fields there are."""
    fields = text.split(" ")
    word = fields[0]
    if word not in (*MANY, "turn", "rule"):
        return 0, None
    for place, field in enumerate(fields[1:], start=1):
        if word == "rule":
            right = place == 1 and field in RULES
        else:
            right = re.fullmatch(FIGURES, field) is not None and "\n" not in field and place <= MANY.get(word, 10 ** 9)
        if not right:
            return place, None
    least = {"turn": 4, "rule": 1}.get(word) or MANY.get(word, 0)
    if len(fields) - 1 < least:
        return len(fields), None
    if word == "rule":
        return None, tuple(fields)
    numbers = [int(field) for field in fields[1:]]
    if word == "turn":
        return None, (word, numbers[0], tuple(numbers[2:]), numbers[1])
    return None, (word, *numbers)


def spoilt_lines():
    found = ["", " ", "Day", "days", " day", "day ", "pay  0 1 1", "pay 0 0 1", "pay 0 1 0", "line 1 1 1 1", "line 0 1 0 0",
             "widen 3 0 0", "narrow 0 0 0", "turn 0 0 1 2", "turn 0 1 2", "turn", "turn 0", "rule", "rule ", "rule 0"]
    for line in LINES:
        found += [line, *spoilt(line, SPOILS)]
    return found


class Texts(Naming, unittest.TestCase):
    def test_there_and_back(self):
        for event, line in zip(EVENTS, LINES):
            self.assertEqual(event_line(event), line)
            self.assertEqual(read_event(line), event)
        self.assertEqual(log_text(EVENTS), "\n".join(LINES))
        self.assertEqual(read_log("\n".join(LINES)), EVENTS)
        self.assertEqual((log_text(()), read_log("")), ("", ()))
        self.assertEqual((log_text((("day",),)), read_log("day")), ("day", (("day",),)))

    def test_drawn_logs(self):
        for seed in range(20):
            draw = random.Random(seed)
            book = Book(3, "short")
            for _ in range(30):
                event = drawn_event(draw, book.web, most_lines=4)
                if book.reason(event) is None:
                    book.do(event)
            text = log_text(tuple(book.log))
            self.assertEqual(read_log(text), tuple(book.log))
            self.assertEqual(replayed(3, "short", read_log(text)).purses_now(), book.purses)

    def judged(self, text):
        place, event = first_wrong(text)
        if place is not None:
            with self.assertRaises(InvalidText, msg=text) as caught:
                read_event(text)
            self.assertEqual((caught.exception.line, caught.exception.field), (0, place), text)
        elif right_event(event):
            self.assertEqual(read_event(text), event)
            self.assertEqual(event_line(event), text)
        else:
            with self.assertRaises(InvalidRow, msg=text) as caught:
                read_event(text)
            self.assertEqual(caught.exception.row, 0)

    def test_spoilt(self):
        for text in spoilt_lines():
            self.judged(text)

    def test_spoilt_logs(self):
        """All of one line before the next one."""
        draw = random.Random(1)
        lines = [line for line in spoilt_lines() if "\n" not in line]
        for _ in range(500):
            rows = [draw.choice(LINES) for _ in range(draw.randint(0, 4))]
            for _ in range(2):
                rows.insert(draw.randint(0, len(rows)), draw.choice(lines))
            judged = [first_wrong(row) for row in rows]
            bad = [at for at, (place, event) in enumerate(judged) if place is not None or not right_event(event)]
            text = "\n".join(rows)
            if not bad:
                self.assertEqual(read_log(text), tuple(event for _, event in judged))
                continue
            with self.assertRaises((InvalidText, InvalidRow)) as caught:
                read_log(text)
            place, _ = judged[bad[0]]
            if place is None:
                self.assertIsInstance(caught.exception, InvalidRow)
                self.assertEqual(caught.exception.row, bad[0])
            else:
                self.assertEqual((caught.exception.line, caught.exception.field), (bad[0], place))

    def test_rows_of_noughts(self):
        for text, line, field in (("\n", 0, 0), ("day\n", 1, 0), ("\nday", 0, 0), ("day\n\nday", 1, 0), (" ", 0, 0)):
            with self.assertRaises(InvalidText) as caught:
                read_log(text)
            self.assertEqual((caught.exception.line, caught.exception.field), (line, field))
        with self.assertRaises(InvalidRow) as caught:
            read_log("day\npay 1 1 1\npay")
        self.assertEqual(caught.exception.row, 1)
        with self.assertRaises(InvalidText) as caught:
            read_event("")
        self.assertEqual((caught.exception.line, caught.exception.field), (0, 0))
        with self.assertRaises(InvalidText) as caught:
            read_event("day\nday")
        self.assertEqual((caught.exception.line, caught.exception.field), (0, 0))

    def test_wrong(self):
        for wrong in (None, 3, True, (), ("day",), ["day"]):
            for function in (read_event, read_log):
                self.named("text", function, wrong)
        for wrong in (None, (), [], "day", ["day"], ("days",), ("pay", 0, 0, 1), ("pay", 0, True, 1), (("day",),)):
            self.named("event", event_line, wrong)
        for wrong in (None, [], "day", ("day",), [("day",)], (("day",), None), (("pay", 0, 1, 0),), 3):
            self.named("log", log_text, wrong)


ASKED = {"purses": "", "reach": "h", "span": "l", "most": "ho", "chance": "ho", "bar": "hoc"}


def first_wrong_question(web, text):
    """The first field that can't stand there now, or how many there are; else None."""
    fields = text.split(" ")
    if fields[0] not in ASKED:
        return 0
    numbers = []
    for place, field in enumerate(fields[1:], start=1):
        kinds = ASKED[fields[0]]
        if place > len(kinds) or not re.fullmatch(FIGURES, field) or "\n" in field:
            return place
        number, kind = int(field), kinds[place - 1]
        if kind in "ho" and number >= web[0] or kind == "l" and number >= len(web[1]):
            return place
        if kind == "o" and number == numbers[0] or kind == "c" and number == 0:
            return place
        numbers.append(number)
    return None if len(numbers) == len(ASKED[fields[0]]) else len(fields)


class Desk(Naming, unittest.TestCase):
    def drawn(self, seed, many):
        for one in range(many):
            draw = random.Random(seed + one)
            live, book = LiveWeb(3, "short"), Book(3, "short")
            for _ in range(15):
                event = drawn_event(draw, book.web, most_lines=4)
                if book.reason(event) is None:
                    live.go(event)
                    book.do(event)
            yield draw, live, book

    def test_questions(self):
        for draw, live, book in self.drawn(100, 40):
            known = standings(book.web)
            size, lines = book.web
            self.assertEqual(desk_line(live, "purses"), " ".join(map(str, book.purses)))
            for house in range(size):
                reach = [one for one in range(size) if one == house or moved(book.purses, house, one, 1) in known]
                self.assertEqual(desk_line(live, f"reach {house}"), " ".join(map(str, reach)))
            for line in range(len(lines)):
                nears = [split[line] for split in known[book.purses]]
                self.assertEqual(desk_line(live, f"span {line}"), f"{min(nears)} {max(nears)}")
            for one in range(size):
                for other in range(size):
                    if one != other:
                        self.pair_asked(live, book, known, one, other)
            self.assertEqual(live.log(), tuple(book.log))

    def pair_asked(self, live, book, known, one, other):
        most = max(coins for coins in range(20) if moved(book.purses, one, other, coins) in known)
        self.assertEqual(desk_line(live, f"most {one} {other}"), str(most))
        if len(splits(book.web)) <= 100:
            chance = 1 - share(book.web, one, other, 1)
            self.assertEqual(desk_line(live, f"chance {one} {other}"), f"{chance.numerator}/{chance.denominator}")
        barred = " ".join(map(str, bar(book.web, book.purses, one, other)))
        for coins in (1, 2, 3, HUGE):
            told = desk_line(live, f"bar {one} {other} {coins}")
            self.assertEqual(told, "open" if coins <= most else barred)

    def test_events(self):
        for draw, live, book in self.drawn(200, 40):
            for _ in range(20):
                event = drawn_event(draw, book.web, most_lines=4)
                reason = book.reason(event)
                if not right_event(event):
                    continue
                if reason is not None:
                    before = live.log()
                    with self.assertRaises(InvalidEvent) as caught:
                        desk_line(live, event_line(event))
                    self.assertEqual((caught.exception.event, caught.exception.reason), (event, reason))
                    self.assertEqual(live.log(), before)
                    continue
                web, purses = book.web, book.purses
                answer = book.do(event)
                due = {None: "done", True: "paid"}.get(answer)
                if answer is False:
                    due = " ".join(["refused", *map(str, bar(web, purses, *event[1:3]))])
                self.assertEqual(desk_line(live, event_line(event)), due)
                self.assertEqual((live.log(), live.purses_now(), live.rule_now()), (tuple(book.log), book.purses, book.rule))

    def test_spoilt_events(self):
        live = LiveWeb(3, "short")
        live.add_line(0, 1, 2, 0)
        for text in spoilt_lines():
            place, event = first_wrong(text)
            if place is not None and text.split(" ")[0] in ASKED:
                continue
            probe = replayed(3, "short", live.log())
            if place is not None:
                with self.assertRaises(InvalidText, msg=text) as caught:
                    desk_line(probe, text)
                self.assertEqual((caught.exception.line, caught.exception.field), (0, place), text)
            elif not right_event(event):
                with self.assertRaises(InvalidEvent, msg=text) as caught:
                    desk_line(probe, text)
                self.assertEqual((caught.exception.event, caught.exception.reason), (event, "shape"))
            else:
                self.same_as_go(probe, text, event)
                continue
            self.assertEqual(probe, live)

    def same_as_go(self, probe, text, event):
        other = replayed(3, "short", probe.log())
        reason = other.barred(event)
        if reason is None:
            other.go(event)
            self.assertIn(desk_line(probe, text).split(" ")[0], ("done", "paid", "refused"))
        else:
            with self.assertRaises(InvalidEvent) as caught:
                desk_line(probe, text)
            self.assertEqual((caught.exception.event, caught.exception.reason), (event, reason))
        self.assertEqual(probe, other)

    def test_spoilt_questions(self):
        live = LiveWeb(3, "short")
        live.do_all((("line", 0, 1, 2, 0), ("line", 2, 1, 3, 0)))
        right = ["purses", "reach 0", "reach 2", "span 1", "most 0 2", "chance 2 1", "bar 0 2 2", "bar 1 0 1"]
        spoils = (*SPOILS, "2", "3", "reach", "purses", str(HUGE))
        texts = [*right, "", " ", "reaches 0", "Purses", "span 2", "most 0 0", "bar 0 1 0", "chance", "bar 0 1", "bar 0 1 1 1"]
        for line in right:
            texts += spoilt(line, spoils)
        for text in texts:
            if text.split(" ")[0] in (*MANY, "turn", "rule"):
                continue
            place = first_wrong_question(live.web_now(), text)
            if place is None:
                self.assertIs(type(desk_line(live, text)), str)
            else:
                with self.assertRaises(InvalidText, msg=text) as caught:
                    desk_line(live, text)
                self.assertEqual((caught.exception.line, caught.exception.field), (0, place), text)
        bare = LiveWeb(1, "short")
        for text, field in (("span 0", 1), ("most 0 0", 2), ("most 0 1", 2), ("reach 1", 1)):
            with self.assertRaises(InvalidText) as caught:
                desk_line(bare, text)
            self.assertEqual((caught.exception.line, caught.exception.field), (0, field))
        self.assertEqual((desk_line(bare, "purses"), desk_line(bare, "reach 0")), ("0", "0"))

    def test_great(self):
        live = LiveWeb(2, "wide")
        self.assertEqual(desk_line(live, f"line 1 0 {HUGE} 5"), "done")
        self.assertEqual((desk_line(live, "purses"), desk_line(live, "most 1 0")), (f"5 {HUGE}", str(HUGE)))
        chance = Fraction(HUGE + 5, HUGE + 6)
        self.assertEqual(desk_line(live, "chance 0 1"), f"{chance.numerator}/{chance.denominator}")
        self.assertEqual((desk_line(live, "pay 0 1 6"), desk_line(live, "pay 0 1 5"), desk_line(live, "bar 0 1 1")),
                         ("refused 0", "paid", "0"))
        self.assertEqual(bar_of(live.web_now(), live.purses_now(), 0, 1), (0,))

    def test_wrong(self):
        live = LiveWeb(2, "short")
        for wrong in (None, 3, "live", (), LiveAsks((2, ()), (), "short"), True):
            for text in ("purses", None, ""):
                self.named("live", desk_line, wrong, text)
        for text in (None, 3, True, ("day",), ["day"], b"day"):
            self.named("text", desk_line, live, text)
        self.assertEqual(desk_line(live=live, text="day"), "done")


if __name__ == "__main__":
    unittest.main()
