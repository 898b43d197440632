"""Events of a live exchange, done and taken back, beside a plain book of all splits."""

import random
import unittest
from itertools import permutations

from livebook import FORMS, RULES, Book, drawn_event, right_event
from naming import Naming
from reckon import HUGE, ROW, great_web, led, moved, purses_at, rings, small_webs, splits, standings, width
from howeverled.claims import holds_at
from howeverled.crossings import chance_of_pair
from howeverled.errors import InvalidEvent, NothingToUndo
from howeverled.journals import days_of
from howeverled.ledchecker import follows_rule
from howeverled.live import LiveWeb
from howeverled.liveasks import LiveAsks
from howeverled.liveevents import is_event, is_log
from howeverled.mosts import most_of
from howeverled.reaches import reach_of
from howeverled.reasons import reason_of
from howeverled.replaying import cut_log, replayed
from howeverled.slacks import is_standing
from howeverled.spans import span_of
from howeverled.stepping import step_of

EVENTS = (
    ("house",), ("line", 0, 1, 2, 0), ("line", 2, 1, 0, 3), ("widen", 0, 1, 0), ("widen", 1, 0, 2), ("narrow", 0, 1, 0),
    ("narrow", 1, 0, 1), ("close", 0, 0), ("close", 1, 2), ("pay", 0, 1, 1), ("pay", 2, 0, 40), ("turn", 0, (0, 1), 1),
    ("turn", 2, (0, 2, 1), 7), ("rule", "short"), ("rule", "wide"), ("rule", "ones"), ("day",),
)
SPOILS = (None, True, False, -1, "0", "", "short", (), (0,), [], [0, 1], (0, True), (0, -1), (0, None), (0, 1), HUGE, 0, 1)


def spoilt_events():
    """The events with each entry spoilt, cut short, too long, and as lists."""
    found = [None, (), [], "day", 3, True, ("",), ("Day",), ("days",), (None,), (0,), (True,), (("day",),), ("rule", "Short"),
             ("rule", True), ("line", 0, 0, 1, 1), ("line", 0, 1, 0, 0), ("widen", 0, 0, 0), ("narrow", 0, 0, 0),
             ("pay", 1, 1, 1), ("pay", 0, 1, 0), ("turn", 0, (), 1), ("turn", 0, (0,), 1), ("turn", 0, (0, 1), 0),
             ("turn", 0, [0, 1], 1), ("turn", 0, (0, 1), True), ("turn", 0, (False, 1), 1), ("turn", 0, "01", 1),
             ("pay", 0, 1, 10 ** 59), ("day", None), ("house", 0), (["day"],), ("close", 0, True), ("close", True, 0)]
    for event in EVENTS:
        found += [list(event), event[:-1], (*event, 0), (*event, None), event[1:], (event,), (event[0].upper(), *event[1:])]
        for place in range(len(event)):
            found += [event[:place] + (spoil,) + event[place + 1:] for spoil in SPOILS]
    return found


class Kinds(unittest.TestCase):
    def test_events(self):
        for event in EVENTS:
            self.assertIs(is_event(event), True)
        told_right = 0
        for thing in spoilt_events():
            self.assertIs(is_event(thing), right_event(thing), thing)
            told_right += right_event(thing)
        self.assertGreater(told_right, 50)

    def test_logs(self):
        for thing in ((), EVENTS, (("day",),) * 200):
            self.assertIs(is_log(thing), True)
        for thing in (None, [], list(EVENTS), "day", ("day",), (*EVENTS, None), (EVENTS,), (("day",), ("pay", 0, 0, 1)), 3, True):
            self.assertIs(is_log(thing), False, thing)


def drawn_splits(seed, many):
    draw = random.Random(seed)
    webs = small_webs(60, many=20, seed=seed)
    return [(draw, web, draw.choice(splits(web))) for web in (draw.choice(webs) for _ in range(many))]


def book_at(web, purses, rule="short"):
    book = Book(1, rule)
    book.web, book.purses = web, purses
    book.tallies = [[0, 0, 0] for _ in range(web[0])]
    return book


def all_events(web):
    """Events of each form for a web, let or not."""
    size, lines = web
    found = [("house",), ("day",), ("rule", "wide")]
    for one in range(size + 1):
        for other in range(size + 1):
            found += [("line", one, other, 1, 2), ("pay", one, other, 1), ("pay", one, other, 2)]
        found += [("turn", one, ring, 2) for start in range(size) for ring in rings(web, start)[:4]]
        found += [("turn", one, (0, 1), 1), ("turn", one, (0, 0), 1), ("turn", one, (1, 2, 7), 1)]
    for line in range(len(lines) + 1):
        for near in range(4):
            found.append(("close", line, near))
            for far in range(4):
                found += [("narrow", line, near, far), ("widen", line, near, far)]
    return found


class Reasons(Naming, unittest.TestCase):
    def test_against_the_book(self):
        seen = {}
        for _, web, split in drawn_splits(91, 40):
            purses = purses_at(web, split)
            book = book_at(web, purses)
            for event in all_events(web):
                reason = book.reason(event)
                self.assertEqual(reason_of(web, purses, event), reason, (web, purses, event))
                seen[event[0], reason] = True
        for reason in ("shape", "house"):
            self.assertIn(("pay", reason), seen)
        for pair in (("turn", "house"), ("turn", "ring"), ("narrow", "line"), ("narrow", "room"), ("narrow", "held"),
                     ("close", "line"), ("close", "held"), ("widen", "line"), ("line", "house"), *[(word, None) for word in FORMS]):
            self.assertIn(pair, seen)

    def test_first_reason(self):
        """Of two reasons the one that is told first."""
        for event, reason in (
            (("turn", 9, (7, 8), 1), "house"), (("narrow", 9, 99, 99), "line"), (("narrow", 0, 2, 0), "room"),
            (("narrow", 0, 0, 2), "room"), (("narrow", 0, 0, 1), "held"), (("narrow", 0, 1, 0), None), (("close", 0, 3), "held"),
            (("pay", 0, 9, 0), "shape"), (("pay", 3, 0, 1), "house"), (("pay", 0, 2, 5), None), (("line", 0, 3, 1, 1), "house"),
            (("turn", 0, (0, 1), 1), "ring"), (("widen", 2, 1, 1), "line"), (None, "shape"), ([("day",)], "shape"),
        ):
            self.assertEqual(reason_of(ROW, (2, 0, 3), event), reason, event)
        for thing in spoilt_events():
            if not right_event(thing):
                self.assertEqual(reason_of(ROW, (2, 0, 3), thing), "shape")

    def test_wrong(self):
        for purses in (None, (), (2, 0), (0, 0, 5), [2, 0, 3], (2, False, 3), (2, 0, 2), 3):
            self.named("purses", reason_of, ROW, purses, None)


class Steps(Naming, unittest.TestCase):
    def test_against_the_book(self):
        for draw, web, split in drawn_splits(92, 25):
            purses = purses_at(web, split)
            for event in all_events(web):
                book = book_at(web, purses)
                reason = book.reason(event)
                for rule in RULES:
                    if reason is not None:
                        with self.assertRaises(InvalidEvent) as caught:
                            step_of(web, split, event, rule)
                        self.assertIs(caught.exception.event, event)
                        self.assertEqual(caught.exception.reason, reason)
                        continue
                    made, after, done = step_of(web, split, event, rule)
                    now = book.copy()
                    self.assertIs(done, now.do(event) is not False)
                    self.assertEqual((made, purses_at(made, after)), (now.web, now.purses))
                    self.assertTrue(all(0 <= near <= line[2] for near, line in zip(after, made[1])))
                    self.assertEqual((len(after), type(after)), (len(made[1]), tuple))

    def test_led_by_the_rule(self):
        """A payment is led, a turn leads as many coins as can be, at most those told."""
        for draw, web, split in drawn_splits(93, 60):
            for payer, payee in permutations(range(web[0]), 2):
                for rule in RULES:
                    _, after, done = step_of(web, split, ("pay", payer, payee, 1), rule)
                    self.assertEqual(purses_at(web, after),
                                     moved(purses_at(web, split), payer, payee, 1) if done else purses_at(web, split))
            for start in range(web[0]):
                for ring in rings(web, start):
                    for coins in (1, 2, 50):
                        after = step_of(web, split, ("turn", start, ring, coins), "short")[1]
                        self.assertEqual(after, led(web, split, start, ring, min(coins, width(web, split, start, ring))))

    def test_wrong(self):
        for split in (None, (), (2,), (3, 0), [2, 0], (2, True), (2, 0, 0)):
            self.named("split", step_of, ROW, split, None, None)
        for rule in (None, "", "Short", True, ("short",), 0):
            self.named("rule", step_of, ROW, (2, 0), None, rule)
        with self.assertRaises(InvalidEvent) as caught:
            step_of(ROW, (2, 0), None, "ones")
        self.assertEqual((caught.exception.event, caught.exception.reason), (None, "shape"))


class Asks(Naming, unittest.TestCase):
    def test_as_the_functions(self):
        for draw, web, split in drawn_splits(94, 40):
            purses = purses_at(web, split)
            known = standings(web)
            rule = draw.choice(RULES)
            asks = LiveAsks(web, split, rule)
            self.assertEqual((asks.web_now(), asks.purses_now(), asks.rule_now()), (web, purses, rule))
            self.assertEqual(purses_at(web, asks.split_now()), purses)
            for house in range(web[0]):
                self.assertEqual(asks.reach(house), reach_of(web, purses, house))
                self.assertIs(asks.asked(("holds", house, 1)), purses[house] >= 1)
            for line in range(len(web[1])):
                nears = [one[line] for one in known[purses]]
                self.assertEqual(asks.span(line), (min(nears), max(nears)))
                self.assertEqual(asks.span(line), span_of(web, purses, line))
            for payer, payee in permutations(range(web[0]), 2):
                self.assertEqual(asks.most(payer, payee), most_of(web, purses, payer, payee))
                self.assertEqual(asks.chance(payer, payee), chance_of_pair(web, payer, payee))
                for coins in (1, 2, 5):
                    self.assertIs(asks.can(payer, payee, coins), moved(purses, payer, payee, coins) in known)
                    claim = ("not", ("pays", payer, payee, coins))
                    self.assertIs(asks.asked(claim), holds_at(web, purses, claim))

    def test_wrong(self):
        for web in (None, 3, (), (3,), [3, ()], (0, ()), (True, ()), (3, []), (2, ((1, 0, 1),))):
            self.named("web", LiveAsks, web, None, None)
        for split in (None, (), (2,), (3, 0), [2, 0], (2, True)):
            self.named("split", LiveAsks, ROW, split, None)
        for rule in (None, "", "Short", True, ("short",), 0):
            self.named("rule", LiveAsks, ROW, (2, 0), rule)
        live = LiveWeb(3, "short")
        live.do_all((("line", 0, 1, 2, 0), ("line", 2, 1, 3, 0)))
        for asks in (LiveAsks(ROW, (2, 0), "ones"), live):
            for wrong in (None, 3, -1, True, "0", (0,)):
                self.named("payer", asks.can, wrong, None, None)
                self.named("payee", asks.can, 0, wrong, None)
                self.named("here", asks.most, wrong, None)
                self.named("there", asks.most, 0, wrong)
                self.named("house", asks.reach, wrong)
                self.named("line", asks.span, wrong)
                self.named("payer", asks.chance, wrong, None)
                self.named("payee", asks.chance, 0, wrong)
                self.named("claim", asks.asked, wrong)
            for wrong in (None, 0, -1, True, "1"):
                self.named("coins", asks.can, 0, 1, wrong)
            self.named("payee", asks.can, 1, 1, 1)
            self.named("claim", asks.asked, ("holds", 3, 0))


def all_told(live):
    """All that an exchange tells."""
    return (live.web_now(), live.split_now(), live.purses_now(), live.rule_now(), live.log(), live.tally(), live.refusals(),
            live.leadings())


class Live(Naming, unittest.TestCase):
    def compared(self, live, book):
        self.assertEqual((live.web_now(), live.purses_now(), live.rule_now(), live.log(), live.tally(), live.refusals()),
                         book.told())
        self.assertEqual(purses_at(live.web_now(), live.split_now()), live.purses_now())
        book.judge_leadings(self, live.leadings())

    def sessions(self, seed, many, steps):
        """Exchanges, each with its book, that have done some drawn events."""
        for one in range(many):
            draw = random.Random(seed + one)
            size, rule = draw.randint(1, 4), draw.choice(RULES)
            live, book = LiveWeb(size, rule), Book(size, rule)
            for _ in range(steps):
                event = drawn_event(draw, book.web, most_lines=4)
                if book.reason(event) is None:
                    live.go(event)
                    book.do(event)
            yield draw, live, book

    def test_against_the_book(self):
        seen = {}
        for seed in range(40):
            draw = random.Random(1000 + seed)
            size, rule = draw.randint(1, 4), draw.choice(RULES)
            live, book = LiveWeb(size, rule), Book(size, rule)
            for step in range(60):
                event = drawn_event(draw, book.web, most_lines=4)
                reason = book.reason(event)
                self.assertEqual(live.barred(event), reason)
                seen[event[0], reason] = True
                if reason is None:
                    self.assertIs(live.go(event), book.do(event))
                else:
                    before = all_told(live)
                    with self.assertRaises(InvalidEvent) as caught:
                        live.go(event)
                    self.assertIs(caught.exception.event, event)
                    self.assertEqual((caught.exception.reason, all_told(live)), (reason, before))
                if step % 7 == 0:
                    self.compared(live, book)
            self.compared(live, book)
        for word in FORMS:
            self.assertIn((word, None), seen)

    def test_methods(self):
        """Each method is go of its event."""
        calls = {"house": "add_house", "line": "add_line", "widen": "widen", "narrow": "narrow", "close": "close",
                 "pay": "pay", "turn": "turn", "rule": "follow", "day": "day"}
        for seed in range(15):
            draw = random.Random(2000 + seed)
            live, other = LiveWeb(3, "short"), LiveWeb(3, "short")
            for _ in range(40):
                event = drawn_event(draw, live.web_now(), most_lines=4)
                method = getattr(other, calls[event[0]])
                if live.barred(event) is None:
                    self.assertIs(method(*event[1:]), live.go(event))
                else:
                    with self.assertRaises(InvalidEvent) as caught:
                        method(*event[1:])
                    self.assertEqual((caught.exception.event, caught.exception.reason), (event, live.barred(event)))
                self.assertEqual(live, other)
                self.assertEqual(all_told(live), all_told(other))

    def test_methods_by_name(self):
        live = LiveWeb(size=2, rule="short")
        self.assertIsNone(live.add_house())
        self.assertIsNone(live.add_line(one=1, other=0, near=2, far=1))
        self.assertIsNone(live.add_line(one=0, other=1, near=1, far=0))
        self.assertIsNone(live.widen(line=0, near=1, far=0))
        self.assertIsNone(live.narrow(line=0, near=0, far=1))
        self.assertIs(live.pay(payer=0, payee=1, coins=1), True)
        self.assertIs(live.pay(payer=2, payee=1, coins=1), False)
        self.assertIsNone(live.turn(house=0, ring=(0, 1), coins=3))
        self.assertIsNone(live.follow(rule="wide"))
        self.assertIsNone(live.day())
        self.assertIsNone(live.close(line=1, near=live.span(1)[0]))
        self.assertEqual(live.do_all(events=(("day",),), keep=True), (None,))
        self.assertIsNone(live.undo(steps=1))
        self.assertEqual(live.tried(events=()), live.purses_now())
        self.assertIsNone(live.barred(event=("day",)))
        self.assertIsNone(live.go(event=("day",)))

    def test_entries_not_as_stated(self):
        live = LiveWeb(2, "short")
        live.add_line(0, 1, 3, 1)
        before = all_told(live)
        wrong = (None, True, False, -1, "0", (), [0], (0,), ("short",))
        for word, method, right in (("line", live.add_line, (0, 1, 1, 1)), ("widen", live.widen, (0, 1, 1)),
                                    ("narrow", live.narrow, (0, 1, 1)), ("close", live.close, (0, 3)),
                                    ("pay", live.pay, (0, 1, 1)), ("turn", live.turn, (0, (0, 1), 1)), ("rule", live.follow, ("ones",))):
            for place in range(len(right)):
                for spoil in wrong:
                    entries = right[:place] + (spoil,) + right[place + 1:]
                    with self.assertRaises(InvalidEvent, msg=entries) as caught:
                        method(*entries)
                    self.assertEqual((caught.exception.event, caught.exception.reason), ((word, *entries), "shape"))
                    self.assertIs(caught.exception.event[place + 1], spoil)
        self.assertEqual(all_told(live), before)

    def test_undo(self):
        for seed in range(20):
            draw = random.Random(3000 + seed)
            live, book = LiveWeb(2, "wide"), Book(2, "wide")
            states = [(all_told(live), book.copy())]
            for _ in range(50):
                if draw.random() < 0.2 and len(states) > 1:
                    steps = draw.randint(1, min(len(states) - 1, 6))
                    self.assertIsNone(live.undo(steps) if steps > 1 or draw.random() < 0.5 else live.undo())
                    del states[-steps:]
                    self.assertEqual(all_told(live), states[-1][0])
                    book = states[-1][1].copy()
                event = drawn_event(draw, book.web, most_lines=4)
                if book.reason(event) is None:
                    self.assertIs(live.go(event), book.do(event))
                    states.append((all_told(live), book.copy()))
            with self.assertRaises(NothingToUndo) as caught:
                live.undo(len(states))
            self.assertEqual((caught.exception.steps, all_told(live)), (len(states), states[-1][0]))
            if len(states) > 1:
                live.undo(len(states) - 1)
            self.assertEqual(all_told(live), states[0][0])
            self.assertEqual(live, LiveWeb(2, "wide"))

    def test_undo_wrong(self):
        live = LiveWeb(2, "wide")
        live.day()
        for steps in (None, 0, -1, True, False, "1", (1,), []):
            self.named("steps", live.undo, steps)
        with self.assertRaises(NothingToUndo) as caught:
            live.undo(2)
        self.assertEqual((caught.exception.steps, live.log()), (2, (("day",),)))
        live.undo()
        with self.assertRaises(NothingToUndo):
            live.undo()

    def test_do_all_and_tried(self):
        for draw, live, book in self.sessions(4000, 50, 20):
            events = []
            probe = book.copy()
            for _ in range(draw.randint(0, 8)):
                event = drawn_event(draw, probe.web, most_lines=4)
                events.append(event)
                if probe.reason(event) is not None:
                    break
                probe.do(event)
            self.several(live, book, tuple(events))

    def several(self, live, book, events):
        before = all_told(live)
        stays = replayed(*book.begin, live.log())
        answers, probe, bad = [], book.copy(), None
        for event in events:
            if probe.reason(event) is not None:
                bad = event
                break
            answers.append(probe.do(event))
        if bad is None:
            self.assertEqual(live.tried(events), probe.purses)
            self.assertEqual(all_told(live), before)
            self.assertEqual(live.do_all(events), tuple(answers))
            self.assertEqual(stays.do_all(events, True), tuple(answers))
            self.compared(live, probe)
            return
        for call in (live.tried, live.do_all, lambda told_events: live.do_all(told_events, False)):
            with self.assertRaises(InvalidEvent) as caught:
                call(events)
            self.assertEqual((caught.exception.event, caught.exception.reason), (bad, probe.reason(bad)))
            self.assertEqual(all_told(live), before)
        with self.assertRaises(InvalidEvent) as caught:
            stays.do_all(events, keep=True)
        self.assertEqual((caught.exception.event, caught.exception.reason), (bad, probe.reason(bad)))
        self.compared(stays, probe)

    def test_do_all_wrong(self):
        live = LiveWeb(2, "short")
        for events in (None, [], [("day",)], "day", 3, True):
            for keep in (False, None):
                self.named("events", live.do_all, events, keep)
            self.named("events", live.tried, events)
        for keep in (None, 0, 1, "", "True", (), (True,)):
            self.named("keep", live.do_all, (), keep)
            self.named("keep", live.do_all, (None,), keep)
        for events in (("day",), (("day",), None), ([],)):
            with self.assertRaises(InvalidEvent) as caught:
                live.do_all(events)
            self.assertEqual((caught.exception.reason, live.log()), ("shape", ()))
        self.assertEqual((live.do_all(()), live.tried(())), ((), (0, 0)))

    def test_size_and_rule(self):
        for size in (None, 0, -1, True, "1", (1,), []):
            self.named("size", LiveWeb, size, None)
        for rule in (None, "", "Short", True, ("short",), 0):
            self.named("rule", LiveWeb, 2, rule)
        self.assertTrue(issubclass(LiveWeb, LiveAsks))

    def test_same(self):
        live = LiveWeb(2, "short")
        self.assertTrue(live == LiveWeb(2, "short"))
        for other in (LiveWeb(3, "short"), LiveWeb(2, "wide"), LiveAsks((2, ()), (), "short"), None, "live", (2, ()), 2):
            self.assertFalse(live == other)
            self.assertTrue(live != other)
        one, other = LiveWeb(2, "short"), LiveWeb(2, "short")
        one.add_line(0, 1, 1, 1)
        self.assertFalse(one == other)
        other.add_line(0, 1, 1, 1)
        self.assertTrue(one == other)
        one.day()
        self.assertFalse(one == other)
        one.undo()
        self.assertTrue(one == other)
        one.follow("short")
        self.assertFalse(one == other)
        # Webs, purses and rules are the same, but not the logs.
        other.add_line(0, 1, 0, 1)
        other.close(1, 0)
        one.undo()
        self.assertEqual((one.web_now(), one.purses_now()), (other.web_now(), other.purses_now()))
        self.assertFalse(one == other)

    def test_rules_and_turns_alone(self):
        """Exchanges that differ by rules and turns give the same answers, purses, tallies and lots of refusals."""
        for draw, live, book in self.sessions(5000, 25, 40):
            other = LiveWeb(book.begin[0], draw.choice(RULES))
            answers, told_answers = [], []
            for event in live.log():
                if event[0] in ("rule", "turn"):
                    continue
                self.put_in(draw, other)
                told_answers.append(other.go(event))
            for place, event in enumerate(live.log()):
                if event[0] not in ("rule", "turn"):
                    answers.append(self.answer_at(live, place, event))
            self.assertEqual(answers, told_answers)
            self.assertEqual((live.web_now(), live.purses_now(), live.tally()), (other.web_now(), other.purses_now(), other.tally()))
            self.assertEqual([lot for _, lot in live.refusals()], [lot for _, lot in other.refusals()])

    def put_in(self, draw, live):
        for _ in range(draw.randint(0, 2)):
            house = draw.randrange(live.web_now()[0])
            known = rings(live.web_now(), house)
            event = ("turn", house, draw.choice(known), draw.randint(1, 3)) if known else ("rule", draw.choice(RULES))
            live.go(event)

    def answer_at(self, live, place, event):
        if event[0] != "pay":
            return None
        return place not in [at for at, _ in live.refusals()]

    def test_opened_and_closed_at_once(self):
        for draw, live, book in self.sessions(6000, 25, 25):
            size, lines = live.web_now()
            before = live.purses_now()
            if size > 1:
                one, other = draw.sample(range(size), 2)
                near, far = draw.choice([(0, 1), (1, 0), (2, 3)])
                live.add_line(one, other, near, far)
                live.close(len(lines), near if one < other else far)
                self.assertEqual((live.purses_now(), live.web_now()), (before, (size, lines)))
            for line in range(len(lines)):
                live.widen(line, 2, 1)
                live.narrow(line, 2, 1)
                self.assertEqual((live.purses_now(), live.web_now()), (before, (size, lines)))

    def test_told_before(self):
        """What is told before stays as it was told when the exchange goes on."""
        for draw, live, book in self.sessions(7000, 15, 25):
            kept = all_told(live)
            written = repr(kept)
            for _ in range(20):
                event = drawn_event(draw, live.web_now(), most_lines=4)
                if live.barred(event) is None:
                    live.go(event)
            live.add_house()
            self.assertEqual(repr(kept), written)
            self.assertTrue(all(type(one) in (tuple, str) for one in kept))

    def test_a_great_exchange(self):
        """Eight houses, fourteen lines, rooms of thirty figures, a log of two hundred events."""
        draw = random.Random(8000)
        web = great_web(95)
        live = LiveWeb(8, "wide")
        for one, other, room in web[1]:
            near = draw.randint(0, room)
            live.add_line(one, other, near, room - near)
        self.assertEqual(live.web_now(), web)
        paid = 0
        while len(live.log()) < 190:
            payer, payee = draw.sample(range(8), 2)
            coins = draw.randint(1, HUGE)
            before = live.purses_now()
            most = live.most(payer, payee)
            answer = live.pay(payer, payee, coins)
            self.assertIs(answer, coins <= most)
            self.assertEqual(live.purses_now(), moved(before, payer, payee, coins) if answer else before)
            paid += answer
            house = draw.randrange(8)
            known = rings(web, house)
            if known:
                live.turn(house, draw.choice(known), HUGE)
            live.follow(draw.choice(("short", "wide")))
        self.assertTrue(is_standing(live.web_now(), live.purses_now()))
        self.assertEqual(purses_at(live.web_now(), live.split_now()), live.purses_now())
        self.assertEqual((len(live.leadings()), len(live.refusals())), (paid, sum(row[2] for row in live.tally())))
        for place, split, leading, rule in live.leadings():
            _, payer, payee, coins = live.log()[place]
            self.assertIs(follows_rule(web, split, payer, payee, coins, rule, leading), True)
        for line in (13, 5, 0):
            least, most = live.span(line)
            room = live.web_now()[1][line][2]
            live.narrow(line, most // 2, (room - most) // 2)
            live.close(line, live.span(line)[1])
            self.assertTrue(is_standing(live.web_now(), live.purses_now()))
        self.assertEqual(replayed(8, "wide", live.log()), live)
        self.assertEqual(replayed(8, "wide", live.log()).leadings(), live.leadings())
        live.undo(len(live.log()))
        self.assertEqual(live, LiveWeb(8, "wide"))

    def test_ones(self):
        live = LiveWeb(2, "ones")
        live.add_line(0, 1, 40, 0)
        live.pay(0, 1, 40)
        self.assertEqual(live.leadings(), ((1, (40,), ((1, (0,)),) * 40, "ones"),))


class Replaying(Naming, unittest.TestCase):
    def drawn_logs(self, seed, many):
        for one in range(many):
            draw = random.Random(seed + one)
            size, rule = draw.randint(1, 3), draw.choice(RULES)
            book = Book(size, rule)
            live = LiveWeb(size, rule)
            for _ in range(30):
                event = drawn_event(draw, book.web, most_lines=4)
                if book.reason(event) is None:
                    book.do(event)
                    live.go(event)
            yield draw, size, rule, live, book

    def test_replayed(self):
        for draw, size, rule, live, book in self.drawn_logs(9000, 30):
            again = replayed(size, rule, live.log())
            self.assertEqual(again, live)
            self.assertEqual(all_told(again), all_told(live))
            for many in (0, len(live.log()) // 2, len(live.log())):
                head, tail = cut_log(live.log(), many)
                self.assertEqual((head, tail), (live.log()[:many], live.log()[many:]))
                part = replayed(size, rule, head)
                part.do_all(tail)
                self.assertEqual(part, live)
            spoilt = (*live.log(), ("pay", 0, 99, 1), None)
            for function in (replayed, days_of):
                with self.assertRaises(InvalidEvent) as caught:
                    function(size, rule, spoilt)
                self.assertEqual((caught.exception.event, caught.exception.reason), (("pay", 0, 99, 1), "house"))

    def test_days(self):
        for draw, size, rule, live, book in self.drawn_logs(9500, 40):
            refused = [place for place, _ in live.refusals()]
            days, now = [], [0] * size
            for place, event in enumerate(live.log()):
                if event[0] == "pay" and place not in refused:
                    now[event[1]] -= event[3]
                    now[event[2]] += event[3]
                elif event[0] == "house":
                    now.append(0)
                elif event[0] == "day":
                    days.append(tuple(now))
                    now = [0] * len(now)
            self.assertEqual(days_of(size, rule, live.log()), tuple(days))
        self.assertEqual(days_of(3, "short", ()), ())

    def test_wrong(self):
        for function in (replayed, days_of):
            for rule in (None, "", "Short", True, ("short",)):
                self.named("rule", function, 2, rule, None)
            for log in (None, [], [("day",)], "day", 3, True):
                self.named("log", function, 2, "short", log)
            for element in (None, [], "day", ("days",), ("pay", 0, 0, 1)):
                with self.assertRaises(InvalidEvent) as caught:
                    function(2, "short", (("day",), element, None))
                self.assertEqual((caught.exception.event, caught.exception.reason), (element, "shape"))
        log = (("day",), ("house",))
        for wrong in (None, [], "day", (("day",), None), [("day",)], ("day",), 3):
            self.named("log", cut_log, wrong, None)
        for many in (None, -1, 3, True, "1", (1,), [], 10 ** 30):
            self.named("many", cut_log, log, many)
        self.assertEqual((cut_log(log, 2), cut_log((), 0)), ((log, ()), ((), ())))


if __name__ == "__main__":
    unittest.main()
