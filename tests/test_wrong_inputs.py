"""For each parameter that may be any value: what is not as stated is named, and of two the first one."""

import importlib
import inspect
import unittest
from itertools import combinations

from reckon import RING, ROW
from howeverled.askchanges import asks_of
from howeverled.errors import NotUsable
from howeverled.forestclasses import Forests
from howeverled.live import LiveWeb
from howeverled.liveasks import LiveAsks
from howeverled.momentclasses import Moment
from howeverled.piececlasses import Piece
from howeverled.planclasses import Plan
from howeverled.runclasses import Run
from howeverled.shareclasses import Shares
from howeverled.webclasses import Web

BOTH = (None, True, False, "0", "", (), [], (None,), [0], ((), ()))
LISTS = ((0, 1, 2, 3), [0, 1, 2], [0, 0, 0], "012", None, 3, (0, 1, True), (0, 1, None), True)

# What is wrong for each kind of parameter on ROW, on which there are houses 0 to 2 and lines 0 and 1.
WRONG = {
    "house": (*BOTH, -1, 3, 10 ** 30, (0,)),
    "other": (*BOTH, -1, 3, 0, (1,)),
    "line": (*BOTH, -1, 2, (0,)),
    "lot": (None, 0, True, "01", [0], [], (1, 0), (0, 0), (0, 3), (-1,), (True,), (False, 1), ((0,),), (0, None)),
    "some_lot": ((), None, 0, True, [0], (1, 0), (0, 0), (0, 3), (-1,), (False, 1)),
    "coins": (*BOTH, 0, -1, -(10 ** 30), (1,)),
    "room": (*BOTH, -1, (1,)),
    "many": (*BOTH, -1, 4),
    "split": (*LISTS, (), (3, 0), (0, 4), (-1, 0), (0,), [2, 0], (True, 0), (0, None)),
    "near": (*BOTH, -1, 1, 3, (2,)),
    "standing": (*LISTS, (0, 0), (2, 0, 4), (2, 0, 2), (3, 0, 2), (0, 0, 5), (-1, 3, 3), [2, 0, 3], (2, False, 3), (2, 3),
                 (2, 0, 3, 0)),
    "held": ((0, 0), (0, 0, 0, 0), [0, 0, 0], None, 5, (3, 0, 0), (0, 6, 0), (0, 0, 4), (0, -1, 0), (0, True, 0)),
    "integers": ((0, 0), (0, 0, 0, 0), [0, 0, 0], None, 5, (0, True, 0), (0, None, 0), (0, "1", 0), ((0,), 0, 0)),
    "order": ((0, 1), (0, 1, 2, 0), (0, 1, 1), (0, 1, 3), (-1, 0, 1), [0, 1, 2], None, 3, (0, True, 2), (False, 1, 2)),
    "sides": (("out", "out"), ("out",) * 4, ["out"] * 3, None, "out", ("out", "in", "up"), ("out", "in", None),
              ("out", "in", True), ("out", "in", ("in",))),
    "rule": (None, "", "one", "Short", 0, ("short",), True, "short "),
    "leading": (None, (), [(1, (0,))], ((1, (0,)), (1, (0,))), ((2, (0,)),), ((True, (0,)),), ((1, (1,)),), ((1, ()),)),
    "way": (None, (), [0], (0, 0), (1,), (0, 1, 0), (True,), (2,), 0, "0"),
    "batch": (None, [], [(0, 1, 1)], ((0, 1),), ((0, 1, 1, 1),), ([0, 1, 1],), ((0, 0, 1),), ((0, 3, 1),), ((0, 1, 0),),
              ((-1, 1, 1),), ((0, 1, True),), ((False, 1, 1),), ((0, 1, 1), None), 5),
    "log": (None, [], [()], "log", 3, True),
    "marks": (*LISTS, (), (3, 0), (0, 4), (-1, 0), (0,), [1, 0], (True, 0), (0, None)),
    "web": (None, 3, (), (3,), [3, ()], (0, ()), (True, ()), (3, []), (2, ((1, 0, 1),)), (2, ((0, 1, 0),)), Web(2)),
    "quotient": (*BOTH, 1, (2, 4), (0, 2), (1, 0), (1, -1), (1, True), (True, 1), [1, 2], (1, 2, 3)),
    "divisor": (*BOTH, 1, (0, 1), (2, 4), (1, 0), [1, 2]),
    "integer": (*BOTH, (1,), (1, 2)),
    "not_nought": (*BOTH, 0, (1,)),
    "joining": ((0, 0), (0, 0, 0, 0), (0, 0, 1), (1, 1, 2), (0, 2, 2), [0, 1, 2], None, 0, (0, 1, True), (False, 1, 2)),
    "joining_two": ((0,), (0, 0, 0), (0, 2), (1, 1), [0, 0], None, (0, True), (0, False), ()),
    "lots": (None, [], ((0, 1),), ((0,), (1,), (2,), ()), ((0, 1), (1, 2)), ((0, 1, 2, 3),), ([0, 1, 2],), ((1, 0), (2,)),
             ((0, 1), (True,), (2,)), (), ((0,), (1,)), 3),
    "text": (None, 3, True, ("3",), ["3"], ()),
    "number": (*BOTH, -1, 12, 10 ** 30, (0,)),
    "chain": (None, [], [(0,)], ((),), ((0, 1, 2),), ((0,), (0,)), ((0,), (1,)), ((0, 1), (0,)), ((0,), (1, 2)), ([0],),
              ((1, 0),), ((3,),), ((True,),), ((0,), None), 3, (0,)),
    "claim": (None, (), "shut", ("shut",), ["shut", ()], ("shut", [0]), ("shut", (3,)), ("shut", (1, 0)), ("shut", (0,), 0),
              ("holds", 0, True), ("holds", 3, 0), ("holds", 0, -1), ("holds", False, 0), ("holds", 0), ("pays", 0, 0, 1),
              ("pays", 0, 1, 0), ("pays", 0, 3, 1), ("pays", 0, 1, True), ("pays", 0, 1), ("pays", 0, 1, 1, 1), ("not",),
              ("not", ("shut",)), ("not", ("shut", ()), ("shut", ())), ("both", ("shut", ())), ("Both", 0, 0), (("not",), 0),
              ("either", ("shut", ()), None), ("not", ("not", ("not", ("not", ("shut", ()))))), (None, ()), 7),
    "asks": (None, [], 5, "-", True, ((0, 1, 1),), ((0, 1, 1, 1, 1),), ([0, 1, 1, 1],), [(0, 1, 1, 1)], ((0, 0, 1, 1),),
             ((0, 3, 1, 1),), ((-1, 0, 1, 1),), ((0, 1, 0, 1),), ((0, 1, 1, 0),), ((0, 1, True, 1),), ((0, 1, 1, True),),
             ((False, 1, 1, 1),), ((0, 1, 1, 1), (0, 1, 1, 1)), ((0, 1, 1, 1), (0, 1, 1, 2)), ((1, 0, 1, 1), (0, 1, 1, 1)),
             ((0, 2, 1, 1), (0, 1, 2, 1)), ((0, 1, 2, 1), (0, 1, 1, 5)), ((0, 1, 1, 1), None)),
    "asked_coins": (*BOTH, 0, -1, 2, 10 ** 30, (1,)),
    "bends": (None, (), 3, ((1, 1), (1, 1)), ((1, 1),) * 4, [(1, 1)] * 3, ((1, 1), (0, 1), (1, 1)), ((1, 1), (-1, 2), (1, 1)),
              ((1, 1), (2, 4), (1, 1)), ((1, 1), (1, True), (1, 1)), ((True, 1), (1, 1), (1, 1)), ((1, 1), 1, (1, 1)),
              ((1, 1), [1, 1], (1, 1)), ((1, 1), (1, 0), (1, 1)), ((1, 1), (1, 1), (1, 1, 1)), ((1, 1), (1, 1), None)),
    "layers": (None, (), 3, [(0, 1, 2)], ((0, 1),), ((0, 1, 2), ()), ((0, 2), (1,)), ((0,), (2,), (1,)), ((0,), (1,), (1, 2)),
               ([0, 1, 2],), ((1, 0), (2,)), ((0,), (1,), (2, 3)), ((0,), (True,), (2,)), ((2,), (0,), (1,)), (0, 1, 2)),
    "upward": (*BOTH, -1, 1, 2, (0,)),
    "doors": (None, (), [0, 2], (0, 0), (0, 3), (-1,), (True,), (0, None), 0, "0", ((0,),), (0, 1, 2, 0)),
    "places": (None, (), [1, 0], (1,), (0, 1, 2), (1, 1), (0, 3), (-1, 0), (True, 0), (0, None), 0, "01"),
    "piece": (None, (), 3, ROW, (ROW,), [ROW, (0, 2)], (ROW, ()), (ROW, [0, 2]), (ROW, (0, 0)), (ROW, (0, 3)), (ROW, (True,)),
              ((0, ()), (0,)), ((True, ()), (0,)), ((2, ((1, 0, 1),)), (0, 1)), (ROW, (0, None)), (None, (0, 2)), "P"),
    "entries": (None, (), 5, "1", [6, 12], (0, 1), (6, -1), (6, True), (6, "1"), (6, None), ((6,), 12), True),
    "door_table": (None, (), 5, [6, 12], (6,), (6, 12, 1), (0, 1), (6, -1), (6, True), (6, "1"), True),
    "worth": (*BOTH, 1, (-1, 2), (2, 4), (0, 2), (1, 0), (1, -1), (1, True), (True, 1), [1, 2], (1, 2, 3)),
    "above_nought": (*BOTH, 1, (0, 1), (-1, 2), (2, 4), (1, 0), (1, True), (True, 2), [1, 2]),
    "chance": (*BOTH, 1, (1, 1), (3, 2), (-1, 2), (2, 4), (0, 2), (1, 0), (1, True), (False, 1), [1, 2]),
    "inner_chance": (*BOTH, 1, (0, 1), (1, 1), (3, 2), (-1, 2), (2, 4), (1, 0), (True, 2), [1, 2]),
    "lengths": (None, (), 3, True, [(0, 2)], (0, 2), ((0, 0),), ((0, -1),), ((-1, 1),), ((0, True),), ((False, 1),), ((0, 1, 1),),
                ((0,),), ([0, 1],), ((1, 1), (0, 1)), ((1, 1), (1, 2)), ((0, 1), None)),
    "purses_of_piece": (None, (), (2, 0), [2, 0, 3], (2, 0, 2), (0, 0, 5), (2, False, 3), (2, 0, 3, 0), 3),
    "other_house": (*BOTH, -1, 2, 10 ** 30, (0,)),
    "event": (None, (), "day", ["day"], ("days",), ("pay", 0, 0, 1), ("pay", 0, 1, 0), ("pay", 0, True, 1), (("day",),), ("day", 0)),
    "events": (None, [], "day", ("day",), [("day",)], (("day",), None), (("pay", 0, 1, 0),), 3, True),
    "cut": (*BOTH, -1, 2, (1,)),
    "live": (None, (), 3, "live", True, ROW, Web(2), LiveAsks(ROW, (2, 0), "short")),
    "some_places": (None, (), [1, 0], (1, 1), (0, 3), (-1, 0), (True, 0), (0, None), 0, "01", (0, 1, 2, 2)),
    "size": (*BOTH, 0, -1, (1,)),
    "doors_joining": (None, (), (0,), (0, 0, 0), (1, 1), (0, 2), [0, 0], (0, True), (False, 0), 0, "00"),
}

ASKED = ((0, 1, 1, 3), (1, 0, 1, 2))
BENDS = ((1, 1), (3, 2), (2, 5))
PIECE = (ROW, (0, 2))
LENGTHS = ((0, 2), (1, 2), (2, 2))
FORM = (3, 1, 7, 3)
LOG = (("day",),)
# A web and another one, and a house of each.
ENDS = (("web", ROW, None), ("here", 2, "house"), ("other", (2, ((0, 1, 1),)), "web"), ("there", 1, "other_house"))
PAIR = (("here", 0, "house"), ("there", 1, "other"))
PAYER = (("payer", 0, "house"), ("payee", 1, "other"))

# Each function: its file, and the parameters with a right value and a kind; None where nothing is refused.
CASES = (
    ("quotients", "quotient_of", (("top", 2, "integer"), ("bottom", 4, "not_nought"))),
    ("quotients", "plus", (("one", (1, 2), "quotient"), ("other", (1, 3), "quotient"))),
    ("quotients", "minus", (("one", (1, 2), "quotient"), ("other", (1, 3), "quotient"))),
    ("quotients", "times", (("one", (1, 2), "quotient"), ("other", (1, 3), "quotient"))),
    ("quotients", "over", (("one", (1, 2), "quotient"), ("other", (1, 3), "divisor"))),
    ("quotients", "less", (("one", (1, 2), "quotient"), ("other", (1, 3), "quotient"))),
    ("joinings", "joinings_of", (("many", 3, None),)),
    ("joinings", "blocks_of", (("many", 3, None), ("joining", (0, 1, 0), "joining"))),
    ("joinings", "joining_of", (("many", 3, None), ("lots", ((0, 2), (1,)), "lots"))),
    ("joinings", "joined_with", (("many", 3, None), ("joining", (0, 1, 0), "joining"),
                                 ("other", (0, 0, 2), "joining"))),
    ("webs", "rooms_of", (("web", ROW, None),)),
    ("webs", "hold_of", (("web", ROW, None), ("house", 1, "house"))),
    ("webs", "within_of", (("web", ROW, None), ("lot", (0, 1), "lot"))),
    ("webs", "bond_of", (("web", ROW, None), ("here", 0, "house"), ("there", 1, "other"))),
    ("webs", "clubs_of", (("web", ROW, None),)),
    ("webs", "hangs_together", (("web", ROW, None),)),
    ("webchanges", "kept_to", (("web", ROW, None), ("lot", (0, 1), "some_lot"))),
    ("webchanges", "without_line", (("web", ROW, None), ("line", 1, "line"))),
    ("webchanges", "made_one", (("web", ROW, None), ("here", 0, "house"), ("there", 1, "other"))),
    ("webchanges", "made_by", (("web", ROW, None), ("joining", (0, 1, 0), "joining"))),
    ("webchanges", "with_line", (("web", ROW, None), ("here", 0, "house"), ("there", 2, "other"),
                                 ("room", 4, "room"))),
    ("webchanges", "renamed", (("web", ROW, None), ("order", (2, 0, 1), "order"))),
    ("webchanges", "beside", (("web", ROW, None), ("other", RING, "web"))),
    ("splits", "purses_of", (("web", ROW, None), ("split", (2, 0), "split"))),
    ("splits", "ends_at", (("web", ROW, None), ("split", (2, 0), "split"), ("house", 1, "house"))),
    ("splits", "turned_over", (("web", ROW, None), ("split", (2, 0), "split"))),
    ("splits", "turned_purses", (("web", ROW, None), ("purses", (2, 5, 0), "held"))),
    ("rings", "is_way", (("web", ROW, None), ("here", 0, "house"), ("there", 1, "other"), ("thing", (0,), None))),
    ("rings", "is_ring", (("web", ROW, None), ("house", 0, "house"), ("thing", (0,), None))),
    ("rings", "led_along", (("web", ROW, None), ("split", (2, 0), "split"), ("house", 0, "house"),
                            ("way", (0,), "way"), ("coins", 2, "coins"))),
    ("turnpapers", "turns_between", (("web", ROW, None), ("split", (2, 0), "split"), ("other", (2, 0), "split"))),
    ("turnpapers", "lets_turns", (("web", ROW, None), ("split", (2, 0), "split"), ("thing", (), None))),
    ("webtexts", "web_line", (("web", ROW, None),)),
    ("webtexts", "limits_line", (("web", ROW, None), ("split", (2, 0), "split"))),
    ("webtexts", "read_web", (("text", "2; 0 1 1", "text"),)),
    ("webtexts", "read_limits", (("text", "2; 0 1 1 0", "text"),)),
    ("slacks", "slack_of", (("web", ROW, None), ("purses", (-2, 0, 9), "integers"), ("lot", (0, 2), "lot"))),
    ("slacks", "is_standing", (("web", ROW, None), ("thing", (2, 0, 3), None))),
    ("slacks", "shut_lots", (("web", ROW, None), ("purses", (2, 0, 3), "standing"))),
    ("slacks", "short_lot", (("web", ROW, None), ("purses", (-2, 0, 9), "integers"))),
    ("standings", "some_split", (("web", ROW, None), ("purses", (2, 0, 3), "standing"))),
    ("mosts", "most_of", (("web", ROW, None), ("purses", (2, 0, 3), "standing"), ("here", 0, "house"),
                          ("there", 1, "other"))),
    ("mosts", "bar_of", (("web", ROW, None), ("purses", (2, 0, 3), "standing"), ("here", 0, "house"),
                         ("there", 1, "other"))),
    ("mosts", "most_table", (("web", ROW, None), ("purses", (2, 0, 3), "standing"))),
    ("reaches", "reach_of", (("web", ROW, None), ("purses", (2, 0, 3), "standing"), ("house", 0, "house"))),
    ("reaches", "payers_of", (("web", ROW, None), ("purses", (2, 0, 3), "standing"), ("house", 0, "house"))),
    ("reaches", "peel_of", (("web", ROW, None), ("purses", (2, 0, 3), "standing"), ("order", (2, 0, 1), "order"))),
    ("reaches", "peel_either", (("web", ROW, None), ("purses", (2, 0, 3), "standing"), ("order", (2, 0, 1), "order"),
                                ("sides", ("in", "out", "in"), "sides"))),
    ("reaches", "classes_of", (("web", ROW, None), ("purses", (2, 0, 3), "standing"), ("coins", 1, "coins"))),
    ("leading", "lead", (("web", ROW, None), ("split", (2, 0), "split"), ("payer", 0, "house"), ("payee", 1, "other"),
                         ("coins", 1, "coins"), ("rule", "wide", "rule"))),
    ("leading", "led_split", (("web", ROW, None), ("split", (2, 0), "split"), ("payer", 0, "house"),
                              ("payee", 1, "other"), ("coins", 1, "coins"), ("leading", ((1, (0,)),), "leading"))),
    ("ledchecker", "lets_leading", (("web", ROW, None), ("split", (2, 0), "split"), ("payer", 0, "house"),
                                    ("payee", 1, "other"), ("coins", 1, "coins"), ("thing", ((1, (0,)),), None))),
    ("ledchecker", "follows_rule", (("web", ROW, None), ("split", (2, 0), "split"), ("payer", 0, "house"),
                                    ("payee", 1, "other"), ("coins", 1, "coins"), ("rule", "ones", "rule"),
                                    ("leading", None, None))),
    ("batches", "net_of", (("size", 3, None), ("batch", ((0, 1, 1),), "batch"))),
    ("batches", "can_settle", (("web", ROW, None), ("purses", (2, 0, 3), "standing"), ("batch", ((0, 1, 1),), "batch"))),
    ("batches", "settled", (("web", ROW, None), ("purses", (2, 0, 3), "standing"), ("batch", ((0, 1, 1),), "batch"))),
    ("batches", "settle", (("web", ROW, None), ("split", (2, 0), "split"), ("batch", ((0, 1, 1),), "batch"))),
    ("spans", "span_of", (("web", ROW, None), ("purses", (2, 0, 3), "standing"), ("line", 0, "line"))),
    ("spans", "split_holding", (("web", ROW, None), ("purses", (2, 0, 3), "standing"), ("line", 0, "line"),
                                ("near", 2, "near"))),
    ("records", "judged_log", (("web", ROW, None), ("split", (2, 0), "split"), ("log", (), "log"))),
    ("momentclasses", "Moment", (("web", ROW, "web"), ("purses", (2, 0, 3), "standing"))),
    ("forestweights", "breadth_of", (("web", ROW, None),)),
    ("forestweights", "forest_weight", (("web", ROW, None),)),
    ("forestweights", "tree_weight", (("web", ROW, None),)),
    ("forestweights", "signed_weight", (("web", ROW, None),)),
    ("forestweights", "weights_by_lines", (("web", ROW, None),)),
    ("foresttables", "frontier_of", (("web", ROW, None), ("order", (1, 0, 2), "order"), ("many", 2, "many"))),
    ("foresttables", "tables_of", (("web", ROW, None), ("order", (1, 0, 2), "order"))),
    ("foresttables", "lets_tables", (
        ("web", ROW, None), ("order", (1, 0, 2), "order"),
        ("thing", ((((), 1),), (((0,), 1),), (((0,), 3),), (((), 12),)), None))),
    ("joinedweights", "joined_weight", (("web", ROW, None), ("lot", (0, 1), "lot"))),
    ("joinedweights", "club_weight", (("web", ROW, None), ("house", 0, "house"), ("lot", (0, 1), "lot"))),
    ("joinedweights", "joining_weight", (("web", ROW, None), ("lot", (0, 1), "lot"),
                                         ("joining", (0, 1), "joining_two"))),
    ("markkinds", "is_marked", (("web", ROW, None), ("thing", (0, 1), None))),
    ("markkinds", "lines_of", (("web", ROW, None), ("marks", (0, 1), "marks"))),
    ("marking", "marked_of", (("web", ROW, None), ("purses", (2, 0, 3), "standing"), ("root", 1, "house"))),
    ("marking", "standing_of", (("web", ROW, None), ("marks", (0, 1), "marks"), ("root", 1, "house"))),
    ("markpapers", "mark_paper", (("web", ROW, None), ("purses", (2, 0, 3), "standing"), ("root", 1, "house"))),
    ("markpapers", "lets_marks", (("web", ROW, None), ("purses", (2, 0, 3), "standing"), ("root", 1, "house"),
                                  ("thing", ((1, 0, 0), (0, 0, 0)), None))),
    ("numbering", "number_of", (("web", ROW, None), ("purses", (2, 0, 3), "standing"), ("root", 1, "house"))),
    ("numbering", "standing_at", (("web", ROW, None), ("number", 11, "number"), ("root", 1, "house"))),
    ("numbering", "next_standing", (("web", ROW, None), ("purses", (2, 0, 3), "standing"), ("root", 1, "house"))),
    ("standinglists", "all_standings", (("web", ROW, None),)),
    ("standinglists", "standings_from", (("web", ROW, None), ("root", 1, "house"))),
    ("forestclasses", "Forests", (("web", ROW, "web"), ("root", 1, "house"))),
    ("pairshares", "refused_count", (("web", ROW, None), ("payer", 0, "house"), ("payee", 1, "other"),
                                     ("coins", 2, "coins"))),
    ("pairshares", "refused_share", (("web", ROW, None), ("payer", 0, "house"), ("payee", 1, "other"),
                                     ("coins", 2, "coins"))),
    ("pairshares", "refused_table", (("web", ROW, None),)),
    ("stretches", "stretch_at", (("web", ROW, None), ("purses", (2, 0, 3), "standing"), ("here", 0, "house"),
                                 ("there", 1, "other"))),
    ("stretches", "stretch_of", (("web", ROW, None), ("purses", (2, 0, 3), "standing"), ("here", 0, "house"),
                                 ("there", 1, "other"))),
    ("stretches", "stretch_table", (("web", ROW, None), ("here", 0, "house"), ("there", 1, "other"))),
    ("reachcounts", "joined_count", (("web", ROW, None), ("lot", (0, 1), "some_lot"))),
    ("reachcounts", "reach_count", (("web", ROW, None), ("house", 0, "house"), ("lot", (0, 1), "lot"))),
    ("reachcounts", "reach_table", (("web", ROW, None), ("house", 0, "house"))),
    ("reachcounts", "reach_mean", (("web", ROW, None), ("house", 0, "house"))),
    ("reachcounts", "peel_count", (("web", ROW, None), ("joining", (0, 1, 0), "joining"))),
    ("chaincounts", "chain_count", (("web", ROW, None), ("lots", ((0,), (0, 2)), "chain"))),
    ("chaincounts", "idle_count", (("web", ROW, None), ("lot", (0, 1), "lot"))),
    ("chaincounts", "busy_count", (("web", ROW, None),)),
    ("allcounts", "all_pay_count", (("web", ROW, None),)),
    ("allcounts", "class_count", (("web", ROW, None), ("joining", (0, 1, 0), "joining"))),
    ("allcounts", "class_table", (("web", ROW, None),)),
    ("allcounts", "both_count", (("web", ROW, None), ("here", 0, "house"), ("there", 1, "other"))),
    ("allcounts", "neither_count", (("web", ROW, None), ("here", 0, "house"), ("there", 1, "other"))),
    ("linemeans", "line_shares", (("web", ROW, None),)),
    ("linemeans", "lines_mean", (("web", ROW, None),)),
    ("linemeans", "purse_mean", (("web", ROW, None), ("house", 0, "house"))),
    ("claimkinds", "is_claim", (("size", 3, None), ("thing", None, None))),
    ("claims", "holds_at", (("web", ROW, None), ("purses", (2, 0, 3), "standing"), ("claim", ("holds", 0, 2), "claim"))),
    ("claims", "claim_count", (("web", ROW, None), ("claim", ("holds", 0, 2), "claim"))),
    ("claims", "claim_share", (("web", ROW, None), ("claim", ("holds", 0, 2), "claim"))),
    ("claims", "claims_alike", (("web", ROW, None), ("claim", ("holds", 0, 2), "claim"), ("other", ("shut", ()), "claim"))),
    ("claims", "claims_apart", (("web", ROW, None), ("claim", ("holds", 0, 2), "claim"), ("other", ("shut", ()), "claim"))),
    ("claimtexts", "claim_line", (("size", 3, None), ("claim", ("holds", 0, 2), "claim"))),
    ("claimtexts", "read_claim", (("size", 3, None), ("text", "holds 0 2", "text"))),
    ("shareclasses", "Shares", (("web", ROW, "web"),)),
    ("askkinds", "is_ask", (("size", 3, None), ("thing", None, None))),
    ("askkinds", "is_asks", (("size", 3, None), ("thing", None, None))),
    ("askkinds", "asks_weight", (("size", 3, None), ("asks", ASKED, "asks"))),
    ("askkinds", "weight_in", (("size", 3, None), ("asks", ASKED, "asks"), ("payer", 0, "house"), ("payee", 1, "other"),
                               ("coins", 1, "coins"))),
    ("askchanges", "asks_back", (("size", 3, None), ("asks", ASKED, "asks"))),
    ("askchanges", "asks_both", (("size", 3, None), ("asks", ASKED, "asks"))),
    ("askchanges", "line_asks", (("web", ROW, None), ("weight", 3, "coins"))),
    ("askchanges", "alike_both", (("size", 3, None), ("asks", ASKED, "asks"))),
    ("running", "after_ask", (("web", ROW, None), ("purses", (2, 0, 3), "standing"), ("payer", 0, "house"),
                              ("payee", 1, "other"), ("coins", 1, "coins"))),
    ("running", "run_of", (("web", ROW, None), ("purses", (2, 0, 3), "standing"), ("calls", ((0, 1, 1),), "batch"))),
    ("running", "led_run", (("web", ROW, None), ("split", (2, 0), "split"), ("calls", ((0, 1, 1),), "batch"),
                            ("rule", "wide", "rule"))),
    ("asktexts", "asks_line", (("size", 3, None), ("asks", ASKED, "asks"))),
    ("asktexts", "read_asks", (("size", 3, None), ("text", "0 1 1 3; 1 0 1 2", "text"))),
    ("steps", "step_rows", (("web", ROW, None), ("asks", ASKED, "asks"))),
    ("longruns", "comes_to", (("web", ROW, None), ("asks", ASKED, "asks"), ("purses", (2, 0, 3), "standing"))),
    ("longruns", "long_run", (("web", RING, None), ("asks", ((0, 1, 1, 1), (1, 2, 1, 1), (2, 0, 1, 1)), "asks"))),
    ("longruns", "asked_refused", (
        ("web", RING, None), ("asks", ((0, 1, 1, 1), (1, 2, 1, 1), (2, 0, 1, 1)), "asks"), ("payer", 0, "house"),
        ("payee", 1, "other"), ("coins", 1, "coins"))),
    ("balances", "gap_at", (("web", ROW, None), ("asks", ASKED, "asks"), ("bends", BENDS, "bends"),
                            ("purses", (2, 0, 3), "standing"))),
    ("balances", "is_lasting", (("web", ROW, None), ("asks", ASKED, "asks"), ("bends", BENDS, "bends"))),
    ("balances", "bent_run", (("web", ROW, None), ("bends", BENDS, "bends"))),
    ("waits", "waits_of", (("web", ROW, None), ("asks", ASKED, "asks"), ("payer", 0, "house"), ("payee", 1, "other"),
                           ("coins", 1, "asked_coins"))),
    ("waits", "mean_wait", (
        ("web", RING, None), ("asks", ((0, 1, 1, 1), (1, 2, 1, 1), (2, 0, 1, 1)), "asks"), ("payer", 0, "house"),
        ("payee", 1, "other"), ("coins", 1, "asked_coins"))),
    ("fits", "asks_fit", (("size", 3, None), ("asks", ASKED, "asks"), ("bends", BENDS, "bends"))),
    ("fitpapers", "fit_paper", (("web", ROW, None), ("asks", (*ASKED, (1, 2, 1, 3), (2, 1, 1, 1)), "asks"))),
    ("fitpapers", "lets_fit", (("web", ROW, None), ("asks", (*ASKED, (1, 2, 1, 3), (2, 1, 1, 1)), "asks"),
                               ("thing", ("fits", ((1, 1), (3, 2), (9, 2))), None))),
    ("wides", "wide_pairs", (("web", ROW, None), ("coins", 1, "coins"))),
    ("wides", "is_wide", (("web", ROW, None), ("coins", 1, "coins"))),
    ("wides", "layered", (("web", ROW, None), ("coins", 1, "coins"), ("lots", ((0,), (1, 2)), "layers"),
                          ("upward", 0, "upward"))),
    ("witnesses", "witness_of", (("web", ROW, None), ("asks", ASKED, "asks"), ("bends", BENDS, "bends"))),
    ("witnesses", "lets_witness", (("web", ROW, None), ("asks", ASKED, "asks"), ("bends", ((1, 1),) * 3, "bends"),
                                   ("thing", (2, 0, 3), None))),
    ("runclasses", "Run", (("web", ROW, "web"), ("asks", ASKED, "asks"))),
    ("piecekinds", "is_piece", (("thing", None, None),)),
    ("piecekinds", "inner_of", (("piece", PIECE, None),)),
    ("piecekinds", "piece_of", (("web", ROW, None), ("doors", (2, 0), "doors"))),
    ("piecekinds", "lets_piece", (("thing", PIECE, None),)),
    ("gluing", "glued", (("piece", PIECE, None), ("other", RING, "web"), ("places", (1, 0), "places"))),
    ("gluing", "doors_made", (("piece", PIECE, None), ("joining", (0, 0), "doors_joining"))),
    ("doortables", "is_table", (("many", 2, None), ("thing", None, None))),
    ("doortables", "door_table", (("piece", PIECE, None),)),
    ("doortables", "factor_of", (("table", (6, 12), "entries"), ("other", (3, 6), "entries"))),
    ("doortables", "glued_weight", (("web", RING, None), ("places", (1, 0), "some_places"), ("table", (6, 12), "door_table"))),
    ("worths", "worth_of", (("piece", PIECE, "piece"),)),
    ("worths", "chance_of", (("piece", PIECE, "piece"),)),
    ("worths", "worth_beside", (("one", (1, 2), "worth"), ("other", (3, 1), "worth"))),
    ("worths", "worth_behind", (("one", (1, 2), "worth"), ("other", (3, 1), "worth"))),
    ("worths", "chance_by", (("worth", (1, 2), "worth"),)),
    ("worths", "worth_by", (("chance", (1, 2), "chance"),)),
    ("joinedpieces", "piece_beside", (("piece", PIECE, "piece"), ("other", PIECE, "piece"))),
    ("joinedpieces", "piece_behind", (("piece", PIECE, "piece"), ("other", PIECE, "piece"))),
    ("ladders", "row_rooms", (("chance", (1, 2), "inner_chance"),)),
    ("ladders", "row_piece", (("rooms", (1, 2), None),)),
    ("ladders", "ladder_of", (("worth", (3, 2), "above_nought"),)),
    ("lengths", "length_at", (("piece", PIECE, "piece"), ("purses", (2, 0, 3), "purses_of_piece"))),
    ("lengths", "length_table", (("piece", PIECE, "piece"),)),
    ("lengthtables", "is_lengths", (("thing", None, None),)),
    ("lengthtables", "table_beside", (("one", LENGTHS, "lengths"), ("other", LENGTHS, "lengths"))),
    ("lengthtables", "table_behind", (("one", LENGTHS, "lengths"), ("other", LENGTHS, "lengths"))),
    ("lengthtables", "mean_length", (("table", LENGTHS, "lengths"),)),
    ("lengthtables", "weight_by", (("table", LENGTHS, "lengths"),)),
    ("lengthtables", "lengths_alike", (("table", LENGTHS, "lengths"), ("other", LENGTHS, "lengths"))),
    ("swaps", "alike_one", (("piece", PIECE, None), ("other", PIECE, "piece"))),
    ("swaps", "alike_always", (("piece", PIECE, "piece"), ("other", PIECE, "piece"))),
    ("swaps", "first_apart", (("piece", PIECE, "piece"), ("other", PIECE, "piece"))),
    ("partings", "parted_web", (("piece", PIECE, None), ("joining", (0, 0), "doors_joining"))),
    ("partings", "parting_of", (("piece", PIECE, None), ("other", PIECE, "piece"))),
    ("partings", "lets_parting", (("piece", PIECE, None), ("other", ((2, ()), (0, 1)), "piece"), ("thing", ((0, 1), 0, 1), None))),
    ("throughs", "refused_through", (("web", ROW, None), *PAIR, ("table", LENGTHS, "lengths"), *PAYER, ("coins", 1, "coins"))),
    ("throughs", "total_through", (("web", ROW, None), *PAIR, ("table", LENGTHS, "lengths"))),
    ("throughs", "quiet_room", (("piece", PIECE, "piece"), ("purses", (2, 0, 3), "purses_of_piece"))),
    ("throughs", "quiet_web", (("web", ROW, None), *PAIR, ("piece", PIECE, "piece"), ("purses", (2, 0, 3), "purses_of_piece"))),
    ("piecetexts", "piece_line", (("piece", PIECE, None),)),
    ("piecetexts", "read_piece", (("text", "doors 0 2 | 3; 0 1 2; 1 2 3", "text"),)),
    ("openforms", "is_form", (("thing", None, None),)),
    ("openforms", "share_form", (("web", ROW, None), *PAIR, *PAYER)),
    ("openforms", "share_at", (("form", FORM, None), ("room", 4, "room"))),
    ("openforms", "sign_of", (("form", FORM, None),)),
    ("openforms", "least_room", (("form", FORM, None), ("wish", (2, 5), "quotient"))),
    ("openforms", "end_of", (("form", FORM, None),)),
    ("signtables", "sign_table", (("web", ROW, None), *PAIR)),
    ("signtables", "unfelt", (("web", ROW, None), *PAIR)),
    ("pouring", "poured", (("rooms", (0, 2, 0), None), ("many", 3, "room"))),
    ("pouring", "pour_row", (("rooms", (0, 2, 0), None),)),
    ("pouring", "pour_star", (("rooms", (0, 2, 0), None),)),
    ("pouring", "coins_for", (("rooms", (0, 2, 0), None), ("wish", (2, 5), "quotient"))),
    ("pourwebs", "row_web", (("rooms", (0, 2, 0), None),)),
    ("pourwebs", "star_web", (("rooms", (0, 2, 0), None),)),
    ("pourpapers", "pour_paper", (("rooms", (0, 2, 0), None), ("many", 3, "room"))),
    ("pourpapers", "lets_pouring", (("rooms", (0, 2, 0), None), ("thing", (0, 2), None))),
    ("crossings", "cut_houses", (("web", ROW, None),)),
    ("crossings", "chance_of_pair", (("web", ROW, None), *PAYER)),
    ("crossings", "chance_row", (("web", ROW, None), *PAYER)),
    ("crossings", "chance_by_row", (("web", ROW, None), *PAYER)),
    ("bridges", "bridged", (*ENDS, ("room", 3, "room"))),
    ("bridges", "shared", ENDS),
    ("bridges", "bridged_chance", (*ENDS, ("room", 3, "room"), ("payer", 1, "house"), ("payee", 0, "other_house"))),
    ("bestlines", "pair_sum", (("web", ROW, None),)),
    ("bestlines", "gain_table", (("web", ROW, None), ("room", 3, "room"))),
    ("bestlines", "best_line", (("web", ROW, None), ("room", 3, "room"))),
    ("bestlines", "loss_table", (("web", ROW, None),)),
    ("planclasses", "Plan", (("web", ROW, "web"),)),
    ("liveevents", "is_event", (("thing", None, None),)),
    ("liveevents", "is_log", (("thing", None, None),)),
    ("reasons", "reason_of", (("web", ROW, None), ("purses", (2, 0, 3), "standing"), ("event", ("day",), None))),
    ("stepping", "step_of", (("web", ROW, None), ("split", (2, 0), "split"), ("event", ("day",), None), ("rule", "wide", "rule"))),
    ("live", "LiveWeb", (("size", 3, "size"), ("rule", "wide", "rule"))),
    ("replaying", "replayed", (("size", 3, None), ("rule", "wide", "rule"), ("log", LOG, "log"))),
    ("replaying", "cut_log", (("log", LOG, "events"), ("many", 1, "cut"))),
    ("journals", "days_of", (("size", 3, None), ("rule", "wide", "rule"), ("log", LOG, "log"))),
    ("eventtexts", "event_line", (("event", ("pay", 0, 1, 2), "event"),)),
    ("eventtexts", "log_text", (("log", LOG, "events"),)),
    ("eventtexts", "read_event", (("text", "pay 0 1 2", "text"),)),
    ("eventtexts", "read_log", (("text", "pay 0 1 2", "text"),)),
    ("desk", "desk_line", (("live", LiveWeb(3, "wide"), "live"), ("text", "purses", "text"))),
    ("kinds", "is_integer", (("thing", None, None),)),
    ("kinds", "is_number", (("thing", None, None),)),
    ("kinds", "is_quotient", (("thing", None, None),)),
    ("kinds", "is_lot", (("size", 3, None), ("thing", None, None))),
    ("kinds", "is_purses", (("size", 3, None), ("thing", None, None))),
    ("kinds", "is_joining", (("many", 3, None), ("thing", None, None))),
    ("kinds", "is_web", (("thing", None, None),)),
    ("kinds", "is_split", (("web", ROW, None), ("thing", None, None))),
    ("webchecker", "lets_web", (("thing", ROW, None),)),
    ("splits", "all_splits", (("web", ROW, None),)),
)


def found(module, name):
    return getattr(importlib.import_module("howeverled." + module), name)


class WrongInputs(unittest.TestCase):
    def named(self, function, arguments, word):
        with self.assertRaises(NotUsable, msg=(function.__name__, arguments)) as caught:
            made = function(**arguments)
            if inspect.isgenerator(made):
                next(made)
        told = (function.__name__, arguments)
        self.assertEqual((caught.exception.word, caught.exception.at), (word, -1), told)

    def test_one_wrong(self):
        for module, name, parameters in CASES:
            function = found(module, name)
            right = {word: value for word, value, _ in parameters}
            for word, _, kind in parameters:
                for wrong in WRONG.get(kind, ()):
                    self.named(function, {**right, word: wrong}, word)

    def test_two_wrong(self):
        for module, name, parameters in CASES:
            function = found(module, name)
            right = {word: value for word, value, _ in parameters}
            checked = [(word, kind) for word, _, kind in parameters if kind is not None]
            for (first, kind), (second, other) in combinations(checked, 2):
                for wrong in WRONG[kind][:4]:
                    for worse in WRONG[other][-4:]:
                        self.named(function, {**right, first: wrong, second: worse}, first)

    def test_by_position_and_by_name(self):
        for module, name, parameters in CASES:
            function = found(module, name)
            values = [value for _, value, _ in parameters]
            one = function(*values)
            other = function(**{word: value for word, value, _ in parameters})
            if inspect.isgenerator(one):
                one, other = list(one), list(other)
            self.assertEqual(one, other)
            self.assertIs(type(one), type(other))

    def test_defined_where_the_interface_lists_them(self):
        for module, name, parameters in CASES:
            function = found(module, name)
            self.assertEqual(function.__module__, "howeverled." + module)
            names = [one for one in inspect.signature(function).parameters]
            self.assertEqual(names, [word for word, _, _ in parameters])

    def test_methods_stand_in_their_classes(self):
        listed = {
            Web: {"bond": ["here", "there"], "hold": ["house"], "kept": ["lot"], "merged": ["here", "there"],
                  "with_new": ["here", "there", "room"], "told": []},
            Moment: {"can": ["payer", "payee", "coins"], "most": ["here", "there"], "reach": ["house"],
                     "pay": ["payer", "payee", "coins"], "span": ["line"], "told": []},
            Forests: {"weight": [], "trees": [], "number": ["purses"], "standing": ["number"], "marks": ["purses"],
                      "purses_by": ["marks"], "told": []},
            Shares: {"refused": ["payer", "payee", "coins"], "joined": ["lot"], "reach": ["house", "lot"],
                     "claim": ["claim"], "total": []},
            Run: {"long_shares": [], "refused": ["payer", "payee", "coins"], "fits": ["bends"],
                  "wait": ["payer", "payee", "coins"], "back": []},
            Piece: {"worth": [], "table": [], "lengths": [], "beside": ["other"], "behind": ["other"], "like": ["other"], "told": []},
            Plan: {"form": ["here", "there", "payer", "payee"], "best": ["room"], "total_chance": [],
                   "with_new": ["here", "there", "room"], "__eq__": ["other"]},
            LiveAsks: {"web_now": [], "split_now": [], "purses_now": [], "rule_now": [], "can": ["payer", "payee", "coins"],
                       "most": ["here", "there"], "reach": ["house"], "span": ["line"], "chance": ["payer", "payee"],
                       "asked": ["claim"]},
            LiveWeb: {"go": ["event"], "barred": ["event"], "add_house": [], "add_line": ["one", "other", "near", "far"],
                      "widen": ["line", "near", "far"], "narrow": ["line", "near", "far"], "close": ["line", "near"],
                      "pay": ["payer", "payee", "coins"], "turn": ["house", "ring", "coins"], "follow": ["rule"], "day": [],
                      "do_all": ["events", "keep"], "undo": ["steps"], "tried": ["events"], "log": [], "tally": [],
                      "refusals": [], "leadings": []},
        }
        for made, methods in listed.items():
            for name, words in methods.items():
                told = list(inspect.signature(vars(made)[name]).parameters)
                self.assertEqual(told, ["self", *words])

    def test_classes_stand_in_their_files(self):
        for made, name, words in ((Piece, "piececlasses", ["web", "doors"]), (Plan, "planclasses", ["web"]),
                                  (LiveAsks, "liveasks", ["web", "split", "rule"]), (LiveWeb, "live", ["size", "rule"])):
            self.assertEqual((made.__module__, list(inspect.signature(made).parameters)), ("howeverled." + name, words))
        self.assertEqual(LiveWeb.__bases__, (LiveAsks,))

    def refusals_of(self, *cases):
        """Each method names what is wrong, and of two the first one."""
        for method, parameters in cases:
            right = {word: value for word, value, _ in parameters}
            method(**right)
            for word, _, kind in parameters:
                for wrong in WRONG[kind]:
                    self.named(method, {**right, word: wrong}, word)
            for (first, _, kind), (second, _, other) in combinations(parameters, 2):
                self.named(method, {**right, first: WRONG[kind][0], second: WRONG[other][0]}, first)

    def test_methods_of_moments(self):
        moment = Moment(ROW, (2, 0, 3))
        self.refusals_of(
            (moment.can, (("payer", 0, "house"), ("payee", 1, "other"), ("coins", 1, "coins"))),
            (moment.pay, (("payer", 0, "house"), ("payee", 1, "other"), ("coins", 1, "coins"))),
            (moment.most, (("here", 0, "house"), ("there", 1, "other"))),
            (moment.reach, (("house", 0, "house"),)),
            (moment.span, (("line", 0, "line"),)),
        )

    def test_methods_of_webs(self):
        web = Web(3, (0, 1, 2), (1, 2, 3))
        self.refusals_of(
            (web.bond, (("here", 0, "house"), ("there", 1, "other"))),
            (web.hold, (("house", 0, "house"),)),
            (web.kept, (("lot", (0, 1), "some_lot"),)),
            (web.merged, (("here", 0, "house"), ("there", 1, "other"))),
            (web.with_new, (("here", 0, "house"), ("there", 1, "other"), ("room", 4, "room"))),
        )

    def test_methods_of_forests_and_shares(self):
        made = Forests(ROW, 1)
        shares = Shares(ROW)
        self.refusals_of(
            (made.number, (("purses", (2, 0, 3), "standing"),)),
            (made.standing, (("number", 3, "number"),)),
            (made.marks, (("purses", (2, 0, 3), "standing"),)),
            (made.purses_by, (("marks", (0, 1), "marks"),)),
            (shares.refused, (("payer", 0, "house"), ("payee", 1, "other"), ("coins", 1, "coins"))),
            (shares.joined, (("lot", (0, 1), "some_lot"),)),
            (shares.reach, (("house", 0, "house"), ("lot", (0, 1), "lot"))),
            (shares.claim, (("claim", ("holds", 0, 2), "claim"),)),
        )

    def test_methods_of_runs(self):
        run = Run(RING, ((0, 1, 1, 1), (1, 2, 1, 1), (2, 0, 1, 1)))
        self.refusals_of(
            (run.refused, (("payer", 0, "house"), ("payee", 1, "other"), ("coins", 1, "coins"))),
            (run.fits, (("bends", BENDS, "bends"),)),
            (run.wait, (("payer", 0, "house"), ("payee", 1, "other"), ("coins", 1, "asked_coins"))),
        )

    def test_rows_of_asks(self):
        self.assertEqual(asks_of.__module__, "howeverled.askchanges")
        self.assertEqual(list(inspect.signature(asks_of).parameters), ["size", "rows"])
        right = (0, 1, 1, 3)
        for wrong in (None, (), 5, (0, 1, 1), (0, 1, 1, 1, 1), [0, 1, 1, 1], (0, 0, 1, 1), (0, 3, 1, 1), (-1, 0, 1, 1),
                      (0, 1, 0, 1), (0, 1, 1, 0), (0, 1, 1, True), (0, True, 1, 1), (0, 1, None, 1)):
            for rows, place in (((wrong,), 0), ((right, wrong), 1), ((right, right, wrong, None), 2)):
                with self.assertRaises(NotUsable) as caught:
                    asks_of(3, *rows)
                self.assertEqual((caught.exception.word, caught.exception.at), ("rows", place))

    def test_any_value_is_told_of(self):
        """Functions that only tell take whatever there is, and give True or False."""
        deep = ()
        for _ in range(29):
            deep = (deep, [deep])
            if len(repr(deep)) > 4000:
                deep = (0,)
        values = (*BOTH, deep, 10 ** 60, -(10 ** 59), "a\nb", (3, (((),),)), Web(2), ["x"] * 50)
        for module, name, parameters in CASES:
            right = {word: value for word, value, _ in parameters}
            if not name.startswith("is_") or "thing" not in right:
                continue
            function = found(module, name)
            for value in values:
                self.assertIs(type(function(**{**right, "thing": value})), bool)


if __name__ == "__main__":
    unittest.main()
