"""[2] for paths, stairs and wrongs: lists for tuples, names, arguments left out and left alone, new results."""

import copy
import unittest

from missedmarks.paths import next_of, pairs, places_at, times_of
from missedmarks.stairs import sweeps_under, wrong_pairs
from missedmarks.wrongs import (
    gone_by, is_story, may_be_wrong, may_hold, may_pairs, safe_hold, safe_paper, shows_safe, story,
)
from tests.samples import BACK, COPIES, CROSS, LAG, listed, tupled

COPY, READER = (("copy", 0),), (("reader", 0),)
PLAIN_CALLS = [
    (times_of, {"timetable": COPIES, "reader": 2}),
    (times_of, {"timetable": LAG, "reader": 0}),
    (places_at, {"timetable": COPIES}),
    (next_of, {"timetable": LAG, "place": 0}),
    (next_of, {"timetable": LAG, "place": 2}),
    (pairs, {"timetable": CROSS}),
    (sweeps_under, {"timetable": LAG, "bounds": [(2, 1), (4, 2)]}),
    (sweeps_under, {"timetable": LAG, "bounds": []}),
    (may_pairs, {"timetable": CROSS, "hold": 0, "guards": ()}),
]


def guarded_calls(guards):
    """Calls that are told these GUARDS, all of one reader and its key."""
    case = {"timetable": BACK, "hold": 1, "reader": 0, "key": "a"}
    told = {"guards": guards}
    return [
        (wrong_pairs, {"timetable": BACK, "hold": 1, "sweeps": ((5, 2), (6, 2)), **told}),
        (gone_by, {"timetable": BACK, "hold": 1, "place": 1, **told}),
        (may_hold, {**case, **told}),
        (story, {**case, "place": -1, **told}),
        (story, {**case, "place": 0, **told}),
        (is_story, {**case, "place": 0, **told, "thing": ((5, 2),)}),
        (is_story, {**case, "place": -1, **told, "thing": ((5, 2),)}),
        (may_be_wrong, {**case, **told}),
        (may_pairs, {"timetable": BACK, "hold": 1, **told}),
        (safe_hold, {"timetable": BACK, "reader": 0, "key": "a", **told}),
        (safe_paper, {**case, **told}),
        (shows_safe, {**case, **told, "thing": ((0, 1),)}),
    ]


CALLS = PLAIN_CALLS + [call for guards in ((), COPY, READER, COPY + READER) for call in guarded_calls(guards)]


class Calls(unittest.TestCase):
    def each(self):
        for function, told in CALLS:
            with self.subTest(function=function.__name__, told=told):
                yield function, told, function(*told.values())

    def unchanged(self, function, told, wanted, by_name):
        kept = copy.deepcopy(told)
        self.assertEqual(function(**told) if by_name else function(*told.values()), wanted)
        self.assertEqual(told, kept)

    def test_by_position_and_by_name(self):
        for function, told, wanted in self.each():
            self.unchanged(function, told, wanted, False)
            self.unchanged(function, dict(reversed(told.items())), wanted, True)

    def test_lists_for_tuples(self):
        for function, told, wanted in self.each():
            for same in (listed, tupled, list):
                other = {
                    name: same(value) if isinstance(value, (list, tuple)) and name != "thing" else value
                    for name, value in told.items()
                }
                self.unchanged(function, other, wanted, False)
                self.unchanged(function, other, wanted, True)

    def test_a_thing_that_is_a_list_is_another_thing(self):
        for function, told, wanted in self.each():
            if wanted is True and "thing" in told:
                for thing in (listed(told["thing"]), list(told["thing"]), tuple(list(row) for row in told["thing"])):
                    self.unchanged(function, {**told, "thing": thing}, False, True)

    def test_guards_left_out(self):
        for function, told, wanted in self.each():
            if told.get("guards") == () and "thing" not in told:
                self.unchanged(function, {name: told[name] for name in told if name != "guards"}, wanted, True)

    def test_again_and_with_the_told_list_changed(self):
        for function, told, wanted in self.each():
            kept = copy.deepcopy(wanted)
            again = function(*told.values())
            self.assertEqual(again, kept)
            if isinstance(again, list):
                self.assertIsNot(again, wanted)
                for row in [row for row in again if isinstance(row, list)]:
                    row.append(None)
                again.append(None)
                again.reverse()
                self.assertEqual(wanted, kept)
                self.assertEqual(function(*told.values()), kept)

    def test_kinds(self):
        kinds = {
            times_of: list, places_at: list, pairs: list, sweeps_under: tuple, wrong_pairs: list, may_pairs: list,
            may_hold: list, is_story: bool, may_be_wrong: bool, safe_hold: int, shows_safe: bool,
        }
        for function, told, _ in self.each():
            wanted = function(**{name: listed(told[name]) if name != "thing" else told[name] for name in told})
            if function in kinds:
                self.assertIs(wanted.__class__, kinds[function])
            if function in (story, safe_paper) and wanted is not None:
                self.assertIs(wanted.__class__, tuple)
            if isinstance(wanted, (list, tuple)):
                inner = [row for row in wanted if isinstance(row, (list, tuple))]
                self.assertTrue(all(isinstance(row, list if function is places_at else tuple) for row in inner))
