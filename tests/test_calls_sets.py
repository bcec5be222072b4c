"""[2] for atonce, guards and views: lists for tuples, names, arguments left out and left alone, new results."""

import unittest

from missedmarks.atonce import (
    at_once, fewest_sweeps, greatest_sets, is_knot, knots, most_at_once, shows_at_once, sweeps_for, values_at_once,
)
from missedmarks.guards import (
    against, blocks, fewest_guards, in_danger, is_block, is_enough, least_hold, least_sets, of_use, paper, shows_fewest,
    trade, vital,
)
from missedmarks.views import (
    can_be, doubt, doubtful, held_by, is_view, missed_places, most_doubtful, shows_doubt, sure, view_of,
)
from tests.call_forms import Forms
from tests.samples import BACK, CROSS, IN_TURN, LAG

COPY, READER = (("copy", 0),), (("reader", 0),)
SWEEPS = ((4, 2), (5, 2))
SEEN = ((2, 1, ((0, "a", 1),)), (5, 3, ((2, "b", 2),)))
TWO = ((3, 2, ((0, "a", 1), (1, "b", 1))), (8, 4, ()))


def calls_at_once(timetable, hold, these, sweeps, knot, guards):
    case = {"timetable": timetable, "hold": hold}
    wanted = {**case, "these": these}
    return [
        (at_once, {**wanted, "guards": guards}), (sweeps_for, {**wanted, "guards": guards}),
        (fewest_sweeps, {**wanted, "guards": guards}), (values_at_once, {**wanted, "guards": guards}),
        (shows_at_once, {**wanted, "thing": sweeps, "guards": guards}),
        (greatest_sets, {**case, "guards": guards}), (most_at_once, {**case, "guards": guards}),
        (knots, {**case, "guards": guards}), (is_knot, {**case, "thing": knot, "guards": guards}),
    ]


def calls_of_guards(timetable, hold, guards, block, rows):
    case = {"timetable": timetable, "hold": hold}
    return [
        (is_enough, {**case, "guards": guards}), (in_danger, {**case, "guards": guards}),
        (against, {**case, "guards": guards}), (fewest_guards, case), (least_sets, case), (vital, case), (of_use, case),
        (is_block, {**case, "thing": block}), (blocks, case), (paper, case), (shows_fewest, {**case, "thing": rows}),
        (least_hold, {"timetable": timetable, "guards": guards}), (trade, {"timetable": timetable}),
    ]


def calls_of_views(hold, view, keys, thing):
    case = {"hold": hold, "view": view}
    return [
        (held_by, {"view": view}), (can_be, case), (missed_places, {**case, "key": keys[0]}), (doubtful, case),
        (sure, case), (doubt, {**case, "keys": keys}), (most_doubtful, case),
        (shows_doubt, {**case, "keys": keys, "thing": thing}), (is_view, {"thing": view}),
    ]


CALLS = (
    calls_at_once(CROSS, 0, [(0, "a")], ((9, 2),), ((0, "a"), (1, "b")), ())
    + calls_at_once(CROSS, 0, [(1, "b"), (0, "a")], ((9, 2),), ((0, "a"),), ())
    + calls_at_once(CROSS, 0, [], (), ((1, "a"),), (("reader", 1),))
    + calls_at_once(BACK, 1, [(0, "a")], ((5, 2),), ((0, "a"),), READER)
    + calls_of_guards(LAG, 1, (), READER, (READER,))
    + calls_of_guards(BACK, 2, COPY, COPY + READER, (COPY + READER,))
    + calls_of_guards(IN_TURN, 1, READER, READER, (READER, (("reader", 1),)))
    + calls_of_views(1, SEEN, ["a"], (LAG, SWEEPS))
    + calls_of_views(1, TWO, ["b", "a"], None)
    + [
        (view_of, {"timetable": LAG, "hold": 1, "sweeps": SWEEPS, "reader": 0}),
        (view_of, {"timetable": BACK, "hold": 0, "sweeps": ((5, 2),), "reader": 0}),
    ]
)


class Calls(Forms, unittest.TestCase):
    calls = CALLS
    kinds = {
        at_once: bool, sweeps_for: tuple, fewest_sweeps: tuple, shows_at_once: bool, values_at_once: list,
        greatest_sets: list, most_at_once: tuple, knots: list, is_knot: bool, is_enough: bool, in_danger: list,
        against: tuple, fewest_guards: tuple, least_sets: list, vital: list, of_use: list, is_block: bool, blocks: list,
        paper: tuple, shows_fewest: bool, least_hold: int, trade: list, is_view: bool, view_of: tuple, held_by: list,
        can_be: bool, missed_places: list, doubtful: list, sure: list, doubt: tuple, most_doubtful: tuple,
        shows_doubt: bool,
    }
