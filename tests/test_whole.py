"""What holds for the whole program: arguments stay, answers are the same again, True is never 1."""

import copy
import inspect
import random
import unittest

from reckon import RING, ROW, TWICE
from test_wrong_inputs import ASKED, BENDS, CASES, LENGTHS, PIECE, WRONG, found
from howeverled.errors import InvalidEvent, InvalidPaper, LedError, NotUsable
from howeverled.foresttables import lets_tables, tables_of
from howeverled.fitpapers import fit_paper, lets_fit
from howeverled.leading import led_split
from howeverled.ledchecker import follows_rule, lets_leading
from howeverled.live import LiveWeb
from howeverled.liveasks import LiveAsks
from howeverled.markpapers import lets_marks, mark_paper
from howeverled.partings import lets_parting
from howeverled.piecekinds import lets_piece
from howeverled.pourpapers import lets_pouring
from howeverled.reasons import reason_of
from howeverled.records import judged_log
from howeverled.stepping import step_of
from howeverled.turnpapers import lets_turns
from howeverled.webchecker import lets_web
from howeverled.witnesses import lets_witness

# What each function that only tells takes for right.
RIGHT_THINGS = (
    ("kinds", "is_integer", (), 1), ("kinds", "is_number", (), 0), ("kinds", "is_quotient", (), (0, 1)),
    ("kinds", "is_lot", (3,), (0, 1)), ("kinds", "is_purses", (3,), (0, 1, 5)), ("kinds", "is_joining", (3,), (0, 1, 0)),
    ("kinds", "is_web", (), (2, ((0, 1, 1),))), ("kinds", "is_split", (ROW,), (1, 0)), ("slacks", "is_standing", (RING,), (1, 0, 2)),
    ("rings", "is_way", (ROW, 0, 2), (0, 1)), ("rings", "is_ring", (TWICE, 0), (0, 1)), ("markkinds", "is_marked", (ROW,), (1, 0)),
    ("claimkinds", "is_claim", (3,), ("both", ("pays", 0, 1, 1), ("either", ("shut", (0, 1)), ("not", ("holds", 1, 0))))),
    ("askkinds", "is_ask", (3,), (0, 1, 1)), ("askkinds", "is_asks", (3,), ((0, 1, 1, 1), (1, 0, 1, 1))),
    ("piecekinds", "is_piece", (), ((2, ((0, 1, 1),)), (1, 0))), ("doortables", "is_table", (2,), (1, 1)),
    ("lengthtables", "is_lengths", (), ((0, 1), (1, 1))), ("openforms", "is_form", (), (0, 1, 1, 1)),
    ("liveevents", "is_event", (), ("turn", 0, (1, 0), 1)), ("liveevents", "is_event", (), ("line", 0, 1, 1, 0)),
    ("liveevents", "is_event", (), ("pay", 0, 1, 1)), ("liveevents", "is_event", (), ("close", 1, 0)),
    ("liveevents", "is_log", (), (("day",), ("narrow", 0, 1, 0))),
)


def variants(thing):
    """The thing with one 0 or 1 in it, at whatever depth, made a bool."""
    if type(thing) is int and thing in (0, 1):
        return [bool(thing)]
    if type(thing) is not tuple:
        return []
    return [thing[:place] + (one,) + thing[place + 1:] for place, part in enumerate(thing) for one in variants(part)]


def lists_for_tuples(thing):
    """The thing with one tuple in it made a list."""
    if type(thing) is not tuple:
        return []
    inner = [thing[:place] + (one,) + thing[place + 1:] for place, part in enumerate(thing) for one in lists_for_tuples(part)]
    return [list(thing), *inner]


def outcome(function, arguments):
    """What comes of a call, as a string."""
    try:
        made = function(*arguments)
        if inspect.isgenerator(made):
            made = list(made)
        return repr(made.told() if hasattr(made, "told") else made) if "object at" in repr(made) else repr(made)
    except LedError as error:
        return f"{type(error).__name__} {sorted(vars(error).items(), key=lambda pair: pair[0])}"


class Whole(unittest.TestCase):
    def calls(self):
        """Each function, with right values and with some wrong ones."""
        for module, name, parameters in CASES:
            function = found(module, name)
            right = [value for _, value, _ in parameters]
            yield function, right
            for place, (_, _, kind) in enumerate(parameters):
                for wrong in WRONG.get(kind, ())[:8]:
                    yield function, right[:place] + [wrong] + right[place + 1:]

    def test_arguments_stay(self):
        for function, arguments in self.calls():
            values = [one for one in arguments if not isinstance(one, LiveAsks)]
            before = copy.deepcopy(values)
            outcome(function, arguments)
            self.assertEqual(values, before, function.__name__)

    def test_asked_again_and_by_turns(self):
        calls = [(function, arguments) for function, arguments in self.calls()
                 if not inspect.isclass(function) and function.__name__ != "replayed"]
        first = [outcome(*call) for call in calls]
        order = list(range(len(calls)))
        random.Random(1).shuffle(order)
        for place in order:
            self.assertEqual(outcome(*calls[place]), first[place], calls[place][0].__name__)

    def test_true_is_not_one(self):
        tried = 0
        for module, name, parameters in CASES:
            function = found(module, name)
            right = {word: value for word, value, _ in parameters}
            for word, value, kind in parameters:
                # Of a log that may be any tuple the elements are told by InvalidEvent.
                wrongs = [*variants(value), *lists_for_tuples(value)] if kind not in (None, "log") else []
                for wrong in wrongs:
                    with self.assertRaises(NotUsable, msg=(name, word, wrong)) as caught:
                        made = function(**{**right, word: wrong})
                        if inspect.isgenerator(made):
                            next(made)
                    self.assertEqual((caught.exception.word, caught.exception.at), (word, -1), (name, wrong))
                    tried += 1
        self.assertGreater(tried, 500)

    def test_true_is_not_one_in_kinds(self):
        for module, name, ahead, thing in RIGHT_THINGS:
            function = found(module, name)
            self.assertIs(function(*ahead, thing), True, name)
            wrongs = [*variants(thing), *lists_for_tuples(thing)]
            self.assertNotEqual(wrongs, [])
            for wrong in wrongs:
                self.assertIs(function(*ahead, wrong), False, (name, wrong))

    def test_true_is_not_one_in_papers(self):
        fitting = (*ASKED, (1, 2, 1, 3), (2, 1, 1, 1))
        odd = ((0, 1, 1, 2), (0, 2, 1, 1), (1, 0, 1, 1), (1, 2, 1, 1), (2, 0, 1, 1), (2, 1, 1, 1))
        papers = (
            (lets_web, (), (2, ((0, 1, 1),))), (lets_turns, (TWICE, (1, 0)), ((0, (0, 1), 1),)),
            (lets_leading, (RING, (1, 0, 1), 0, 2, 1), ((1, (0, 2)),)), (lets_tables, (RING, (0, 1, 2)), tables_of(RING, (0, 1, 2))),
            (lets_marks, (RING, (2, 1, 0), 0), mark_paper(RING, (2, 1, 0), 0)), (lets_fit, (ROW, fitting), fit_paper(ROW, fitting)),
            (lets_fit, (RING, odd), fit_paper(RING, odd)), (lets_witness, (RING, odd, BENDS), (0, 1, 2)),
            (lets_piece, (), ((2, ((0, 1, 1),)), (1, 0))), (lets_parting, (PIECE, ((2, ()), (0, 1))), ((0, 1), 0, 1)),
            (lets_pouring, ((1, 0),), (1, 0, 1)),
        )
        for function, ahead, paper in papers:
            function(*ahead, paper)
            wrongs = [*variants(paper), *lists_for_tuples(paper)]
            self.assertNotEqual(wrongs, [])
            for wrong in wrongs:
                with self.assertRaises(InvalidPaper, msg=(function.__name__, wrong)):
                    function(*ahead, wrong)

    def test_true_is_not_one_in_logs_and_events(self):
        log = (("refused", 0, 2, 1), ("paid", 0, 1, 1, ((1, (0,)),)))
        self.assertIsNone(judged_log(ROW, (2, 0), log))
        for wrong in [*variants(log), *lists_for_tuples(log)[1:]]:
            self.assertIn(judged_log(ROW, (2, 0), wrong)[1], ("shape", "unled"))
        for wrong in variants(((1, (0,)),)):
            self.assertIs(follows_rule(ROW, (2, 0), 0, 1, 1, "short", wrong), False)
            with self.assertRaises(NotUsable):
                led_split(ROW, (2, 0), 0, 1, 1, wrong)
        for event in (("pay", 0, 1, 1), ("close", 0, 1), ("narrow", 1, 0, 1), ("widen", 0, 1, 1), ("line", 1, 0, 1, 1),
                      ("turn", 0, (0, 1), 1)):
            for wrong in [*variants(event), *lists_for_tuples(event)]:
                self.assertEqual(reason_of(ROW, (2, 0, 3), wrong), "shape")
                live = LiveWeb(3, "short")
                for call in (lambda told: step_of(ROW, (2, 0), told, "short"), live.go, lambda told: live.do_all((told,))):
                    with self.assertRaises(InvalidEvent) as caught:
                        call(wrong)
                    self.assertIs(caught.exception.event, wrong)
                    self.assertEqual(caught.exception.reason, "shape")
                self.assertEqual(live.log(), ())

    def test_right_values_have_what_is_spoilt(self):
        """The tables that are tried here are of the kind that they stand for."""
        self.assertTrue(variants(LENGTHS) and variants(PIECE) and variants(BENDS) and lists_for_tuples(ASKED))


if __name__ == "__main__":
    unittest.main()
