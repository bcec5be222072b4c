"""[9]: who can be wrong at once: the document's examples, chosen cases, things of every kind, errors."""

import itertools
import unittest

from missedmarks.atonce import (
    at_once, fewest_sweeps, greatest_sets, is_knot, knots, most_at_once, shows_at_once, sweeps_for, values_at_once,
)
from missedmarks.data import guards_of, is_sweeps
from missedmarks.errors import NoPair
from missedmarks.paths import pairs
from missedmarks.stairs import wrong_pairs
from tests.samples import BACK, COPIES, CROSS, LAG, ODD_THINGS, TRIO, listed

GUARD = (("reader", 1),)
# Reader 0 reads both values of a in turn, and can miss its mark with either of them.
TWICE = (
    ("put", "a", 7), ("join", 0), ("read", 0, 1), ("put", "a", 4), ("read", 0, 2), ("drop", "a"), ("wait",),
    ("read", 0, 3),
)
# Two readers at the same place, and two keys: all can be wrong at once.
ALIKE = (
    ("put", "a", 1), ("put", "b", 2), ("join", 0), ("join", 1), ("read", 0, 2), ("read", 1, 2), ("drop", "b"),
    ("drop", "a"), ("read", 1, 4), ("read", 0, 4),
)


class Examples(unittest.TestCase):
    def test_sets_and_knots(self):
        self.assertEqual(
            (pairs(CROSS), greatest_sets(CROSS, 0), knots(CROSS, 0)),
            ([(0, "a"), (1, "a"), (1, "b")], [((0, "a"),), ((1, "b"),)], [((1, "a"),), ((0, "a"), (1, "b"))]),
        )
        self.assertEqual(
            (at_once(CROSS, 0, [(1, "b"), (0, "a")]), values_at_once(CROSS, 0, [(1, "b")]), most_at_once(CROSS, 1),
             is_knot(CROSS, 0, ((0, "a"), (1, "a")))),
            (False, [(2,)], (), False),
        )

    def test_sweeps(self):
        self.assertEqual(
            (len(fewest_sweeps(CROSS, 0, [(0, "a")])), shows_at_once(CROSS, 0, [(0, "a")], ((8, 1), (9, 2))),
             shows_at_once(CROSS, 0, [(0, "a")], ((8, 2),)), most_at_once(CROSS, 0, GUARD)),
            (1, True, False, ((0, "a"),)),
        )

    def test_no_pair(self):
        with self.assertRaises(NoPair) as caught:
            at_once(CROSS, 0, [(0, "b")])
        self.assertEqual(vars(caught.exception), {"reader": 0, "key": "b"})


class NobodyIsWanted(unittest.TestCase):
    def test_nobody_always_can(self):
        for timetable in ((), LAG, BACK, CROSS, COPIES):
            for hold in (0, 1, 40):
                self.assertIs(at_once(timetable, hold, []), True)
                self.assertEqual(sweeps_for(timetable, hold, []), ())
                self.assertEqual(fewest_sweeps(timetable, hold, []), ())
                self.assertEqual(values_at_once(timetable, hold, []), [()])
                self.assertIs(shows_at_once(timetable, hold, [], ()), True)
                self.assertIs(shows_at_once(timetable, hold, [], ((0, 0),)), True)
                self.assertIs(shows_at_once(timetable, hold, [], ((0, 1),)), False)

    def test_where_nobody_can_be_wrong(self):
        for timetable, hold, guards in (((), 0, ()), (LAG, 2, ()), (LAG, 0, (("reader", 0),)), (CROSS, 1, ()),
                                        (LAG[:5], 0, ())):
            self.assertEqual(greatest_sets(timetable, hold, guards), [()])
            self.assertEqual(most_at_once(timetable, hold, guards), ())
            self.assertEqual(knots(timetable, hold, guards), [(pair,) for pair in pairs(timetable)])
            for pair in pairs(timetable):
                self.assertIs(at_once(timetable, hold, [pair], guards), False)
                self.assertIsNone(sweeps_for(timetable, hold, [pair], guards))
                self.assertIsNone(fewest_sweeps(timetable, hold, [pair], guards))
                self.assertEqual(values_at_once(timetable, hold, [pair], guards), [])
                self.assertIs(is_knot(timetable, hold, (pair,), guards), True)
            self.assertIs(is_knot(timetable, hold, (), guards), False)


class Chosen(unittest.TestCase):
    def test_several_values(self):
        self.assertEqual([values_at_once(TWICE, hold, [(0, "a")]) for hold in range(4)], [[(4,)], [(4,)], [], []])
        # The second value is not read by itself: who gets it gets the mark.
        lag = TWICE[:4] + TWICE[5:]
        self.assertEqual([values_at_once(lag, hold, [(0, "a")]) for hold in range(3)], [[(7,)], [(7,)], []])
        steps = lag[:5] + (("read", 0, 2),) + lag[5:]
        told = [values_at_once(steps, hold, [(0, "a")]) for hold in range(4)]
        self.assertEqual(told, [[(4,), (7,)], [(4,), (7,)], [(7,)], []])

    def test_two_puts_of_one_value_are_one(self):
        steps = (
            ("put", "a", 7), ("join", 0), ("read", 0, 1), ("put", "a", 7), ("drop", "a"), ("read", 0, 2), ("wait",),
            ("read", 0, 3),
        )
        self.assertEqual(values_at_once(steps, 0, [(0, "a")]), [(7,)])

    def test_in_the_order_of_these(self):
        for these in itertools.permutations(pairs(ALIKE)):
            values = {"a": 1, "b": 2}
            self.assertEqual(values_at_once(ALIKE, 0, list(these)), [tuple(values[key] for _, key in these)])
            self.assertIs(at_once(ALIKE, 0, list(these)), True)

    def test_all_at_once(self):
        everybody = ((0, "a"), (0, "b"), (1, "a"), (1, "b"))
        self.assertEqual(greatest_sets(ALIKE, 0), [everybody])
        self.assertEqual((most_at_once(ALIKE, 0), knots(ALIKE, 0)), (everybody, []))
        self.assertEqual(len(fewest_sweeps(ALIKE, 0, everybody)), 1)
        # With hold 1 who reads at 8 can only miss the first mark, which was covered at 7, and only by two sweeps both.
        self.assertEqual(greatest_sets(ALIKE, 1), [((0, "a"), (0, "b"), (1, "b"))])
        self.assertEqual(knots(ALIKE, 1), [((1, "a"),)])
        self.assertEqual([len(fewest_sweeps(ALIKE, 1, [pair])) for pair in greatest_sets(ALIKE, 1)[0]], [1, 1, 1])
        self.assertEqual(len(fewest_sweeps(ALIKE, 1, [(0, "a"), (1, "b")])), 2)
        # A guard is where it is: reader 1 is gone by 9, and reader 0 goes nowhere ahead of its own read.
        self.assertEqual(greatest_sets(ALIKE, 0, GUARD), [((0, "a"), (0, "b"))])
        self.assertEqual(greatest_sets(ALIKE, 0, guards_of(ALIKE)), [()])

    def test_three_of_whom_any_two_can(self):
        three = ((0, "a"), (0, "c"), (1, "c"))
        self.assertIn(three, knots(TRIO, 0))
        self.assertIs(is_knot(TRIO, 0, three), True)
        self.assertIs(at_once(TRIO, 0, three), False)
        for two in itertools.combinations(three, 2):
            self.assertIs(at_once(TRIO, 0, two), True)
            self.assertLessEqual(set(two), set(wrong_pairs(TRIO, 0, sweeps_for(TRIO, 0, two))))
            self.assertIs(is_knot(TRIO, 0, two), False)
        self.assertIsNone(fewest_sweeps(TRIO, 0, three))

    def test_the_longer_ones_first(self):
        for timetable in (CROSS, TRIO, ALIKE, COPIES, BACK):
            for hold in (0, 1):
                told = greatest_sets(timetable, hold)
                self.assertEqual(told, sorted(told, key=lambda some: (-len(some), some)))
                self.assertEqual(most_at_once(timetable, hold), told[0])
                told = knots(timetable, hold)
                self.assertEqual(told, sorted(told, key=lambda some: (len(some), some)))


class Shows(unittest.TestCase):
    def test_one_thing_changed(self):
        for thing in (((9, 2),), ((9, 2), (9, 2)), ((0, 0), (8, 1), (9, 2)), ((9, 3),), ((9, 4), (10, 0))):
            self.assertIs(shows_at_once(CROSS, 0, [(0, "a")], thing), True)
        for thing in (
            (), ((9, 1),), ((8, 1),), ((10, 2),), ((7, 2), (9, 2)), ((9, 5),), ((9, 2), (8, 1)), ((9, 2), (11, 2)),
            ((9, 2), (10, -1)), ((-1, 0), (9, 2)),
        ):
            self.assertIs(shows_at_once(CROSS, 0, [(0, "a")], thing), False)
        self.assertIs(shows_at_once(CROSS, 1, [(0, "a")], ((9, 2),)), False)
        self.assertIs(shows_at_once(CROSS, 0, [(0, "a")], ((9, 2),), (("reader", 0),)), False)
        self.assertIs(shows_at_once(CROSS, 0, [(0, "a")], ((9, 2),), GUARD), True)

    def test_whoever_else_is(self):
        self.assertIs(shows_at_once(ALIKE, 0, [(0, "a")], ((8, 4),)), True)
        self.assertIs(shows_at_once(ALIKE, 0, [(0, "a"), (1, "b")], ((8, 4),)), True)
        self.assertIs(shows_at_once(ALIKE, 0, [(0, "a"), (1, "b")], ((9, 4),)), False)

    def test_lists_and_values_of_every_kind(self):
        for thing in ODD_THINGS + [[(9, 2)], ([9, 2],), [[9, 2]], ((9, True),), ((True, 1),), ((9, "2"),), ((9,),),
                                   ((9, 2), None), ((9, 2, 0),), (((9, 2),),), (9, 2), "9:2"]:
            self.assertIs(shows_at_once(CROSS, 0, [(0, "a")], thing), False)
        for thing in ([], [()], None, 0, ((True, False),), ((0, False),)):
            self.assertIs(shows_at_once(CROSS, 0, [], thing), False)


class IsKnot(unittest.TestCase):
    def test_right_ones_and_one_thing_changed(self):
        for timetable in (CROSS, TRIO, ALIKE, COPIES, BACK, LAG):
            for hold in (0, 1, 2):
                told = knots(timetable, hold)
                known = pairs(timetable)
                for count in range(len(known) + 1):
                    for some in itertools.permutations(known, count):
                        self.assertIs(is_knot(timetable, hold, some), some in told)
                for knot in told:
                    self.assertIs(is_knot(timetable, hold, knot + knot[-1:]), False)
                    self.assertIs(is_knot(timetable, hold, knot + ((99, "a"),)), False)

    def test_lists_and_values_of_every_kind(self):
        knot = ((0, "a"), (1, "b"))
        self.assertIs(is_knot(CROSS, 0, knot), True)
        for thing in ODD_THINGS + [
            list(knot), listed(knot), ([0, "a"], (1, "b")), ((0, "a"), [1, "b"]), ((False, "a"), (True, "b")),
            ((0, "a"), (True, "b")), ((False, "a"), (1, "b")), ((0, "a", 0), (1, "b")), ((0, "a"), (1,)), (0, "a"),
            (("0", "a"), (1, "b")), ((0, None), (1, "b")), ((0, ("a",)), (1, "b")), ("0a", "1b"),
            (((0, "a"), (1, "b")),),
            ((10 ** 5000, "a"), (1, "b")), 10 ** 5000,
        ]:
            self.assertIs(is_knot(CROSS, 0, thing), False)
        self.assertIs(is_knot(CROSS, 0, ((1, "a"),)), True)
        self.assertIs(is_knot(CROSS, 0, ((True, "a"),)), False)


class Errors(unittest.TestCase):
    def test_the_first_that_is_none(self):
        calls = (at_once, sweeps_for, fewest_sweeps, values_at_once)
        for these, wanted in (
            ([(0, "b")], (0, "b")), ([(0, "a"), (2, "a")], (2, "a")), ([(0, "zz"), (0, "b")], (0, "zz")),
            ([(5, "a"), (0, "a"), (0, "b")], (5, "a")), ([(1, "a"), (1, "b"), (0, "b"), (7, "a")], (0, "b")),
        ):
            for hold in (0, 1):
                for call in calls:
                    self.fails(wanted, call, CROSS, hold, these)
                    self.fails(wanted, call, CROSS, hold, listed(these))
                    self.fails(wanted, call, CROSS, hold, tuple(these), GUARD)
                for thing in ((), ((9, 2),), [], None):
                    self.fails(wanted, shows_at_once, CROSS, hold, these, thing)
        for timetable in ((), LAG[:5], BACK[:7]):
            self.fails((0, "a"), at_once, timetable, 0, [(0, "a")])

    def fails(self, wanted, call, *arguments):
        with self.assertRaises(NoPair) as caught:
            call(*arguments)
        self.assertEqual(vars(caught.exception), {"reader": wanted[0], "key": wanted[1]})

    def test_pairs_that_cannot_be_wrong_are_no_errors(self):
        self.assertIs(at_once(CROSS, 0, [(1, "a")]), False)
        self.assertIsNone(sweeps_for(CROSS, 0, [(1, "a")]))

    def test_what_is_told_is_sweeps(self):
        for timetable in (CROSS, TRIO, ALIKE, COPIES, BACK):
            for some in greatest_sets(timetable, 0):
                for call in (sweeps_for, fewest_sweeps):
                    self.assertIs(is_sweeps(timetable, call(timetable, 0, some)), True)
                    self.assertIs(shows_at_once(timetable, 0, some, call(timetable, 0, some)), True)
