"""[2] for paths, stairs and wrongs: lists for tuples, names, arguments left out and left alone, new results."""

import unittest

from missedmarks.paths import next_of, pairs, places_at, times_of
from missedmarks.stairs import sweeps_under, wrong_pairs
from missedmarks.wrongs import (
    gone_by, is_story, may_be_wrong, may_hold, may_pairs, safe_hold, safe_paper, shows_safe, story,
)
from tests.call_forms import Forms
from tests.samples import BACK, COPIES, CROSS, LAG

COPY, READER = (("copy", 0),), (("reader", 0),)
PLAIN_CALLS = [
    (times_of, {"timetable": COPIES, "reader": 2}),
    (times_of, {"timetable": LAG, "reader": 0}),
    (places_at, {"timetable": COPIES}),
    (next_of, {"timetable": LAG, "place": 0}),
    (next_of, {"timetable": LAG, "place": 2}),
    (pairs, {"timetable": CROSS}),
    (sweeps_under, {"timetable": LAG, "bounds": [(2, 1), (4, 2)]}),
    (sweeps_under, {"timetable": LAG, "bounds": []}),
    (may_pairs, {"timetable": CROSS, "hold": 0, "guards": ()}),
]


def guarded_calls(guards):
    """Calls that are told these GUARDS, all of one reader and its key."""
    case = {"timetable": BACK, "hold": 1, "reader": 0, "key": "a"}
    told = {"guards": guards}
    return [
        (wrong_pairs, {"timetable": BACK, "hold": 1, "sweeps": ((5, 2), (6, 2)), **told}),
        (gone_by, {"timetable": BACK, "hold": 1, "place": 1, **told}),
        (may_hold, {**case, **told}),
        (story, {**case, "place": -1, **told}),
        (story, {**case, "place": 0, **told}),
        (is_story, {**case, "place": 0, **told, "thing": ((5, 2),)}),
        (is_story, {**case, "place": -1, **told, "thing": ((5, 2),)}),
        (may_be_wrong, {**case, **told}),
        (may_pairs, {"timetable": BACK, "hold": 1, **told}),
        (safe_hold, {"timetable": BACK, "reader": 0, "key": "a", **told}),
        (safe_paper, {**case, **told}),
        (shows_safe, {**case, **told, "thing": ((0, 1),)}),
    ]


CALLS = PLAIN_CALLS + [call for guards in ((), COPY, READER, COPY + READER) for call in guarded_calls(guards)]


class Calls(Forms, unittest.TestCase):
    calls = CALLS
    kinds = {
        times_of: list, places_at: list, pairs: list, sweeps_under: tuple, wrong_pairs: list, may_pairs: list,
        may_hold: list, story: tuple, is_story: bool, may_be_wrong: bool, safe_hold: int, safe_paper: tuple,
        shows_safe: bool,
    }
    with_lists = (places_at,)
