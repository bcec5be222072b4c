"""[7]: greatest sweeps, and who is wrong behind given ones."""

import random
import unittest

from missedmarks.data import guards_of, is_sweeps
from missedmarks.stairs import sweeps_under, wrong_pairs
from tests.all_sweeps import behind
from tests.samples import BACK, COPIES, CROSS, LAG, lagging_timetable, random_sweeps, random_timetable

SAMPLES = [(), LAG, BACK, CROSS, COPIES] + [random_timetable(seed, 12) for seed in range(30)]
SAMPLES += [lagging_timetable(seed, 14) for seed in range(60)]


def may_go(timetable, bounds, time, point):
    """Whether a sweep may go up to this point at this time."""
    total = sum(event[0] in ("put", "drop") for event in timetable[:time])
    return point <= total and all(point <= most for latest, most in bounds if time <= latest)


def drawn_bounds(rng, timetable):
    return [(rng.randint(0, len(timetable)), rng.randint(0, 8)) for _ in range(rng.randrange(4))]


class Examples(unittest.TestCase):
    def test_of_the_document(self):
        self.assertEqual(
            (sweeps_under(LAG, [(2, 1)]), wrong_pairs(LAG, 1, sweeps_under(LAG, [(2, 1)])),
             wrong_pairs(LAG, 1, sweeps_under(LAG, []))),
            (((0, 0), (1, 1), (2, 1), (3, 1), (4, 2), (5, 3), (6, 3)), [(0, "a")], [(0, "a")]),
        )
        self.assertEqual(
            (wrong_pairs(LAG, 2, sweeps_under(LAG, [])), wrong_pairs(LAG, 0, sweeps_under(LAG, []), [("reader", 0)])),
            ([], []),
        )


class Under(unittest.TestCase):
    def points(self, timetable, *bounds):
        sweeps = sweeps_under(timetable, list(bounds))
        self.assertIs(sweeps.__class__, tuple)
        self.assertTrue(is_sweeps(timetable, sweeps))
        self.assertEqual([time for time, _ in sweeps], list(range(len(timetable) + 1)))
        return [point for _, point in sweeps]

    def test_no_bound(self):
        self.assertEqual(self.points(LAG), [0, 1, 1, 1, 2, 3, 3])
        self.assertEqual(self.points(()), [0])

    def test_one_bound(self):
        self.assertEqual(self.points(LAG, (4, 1)), [0, 1, 1, 1, 1, 3, 3])
        self.assertEqual(self.points(LAG, (5, 2)), [0, 1, 1, 1, 2, 2, 3])
        self.assertEqual(self.points(LAG, (3, 0)), [0, 0, 0, 0, 2, 3, 3])

    def test_several_bounds(self):
        self.assertEqual(self.points(LAG, (1, 0), (5, 1)), [0, 0, 1, 1, 1, 1, 3])
        self.assertEqual(self.points(LAG, (5, 1), (1, 0)), [0, 0, 1, 1, 1, 1, 3])
        self.assertEqual(self.points(LAG, (5, 1), (4, 2)), [0, 1, 1, 1, 1, 1, 3])

    def test_several_at_one_time(self):
        self.assertEqual(self.points(LAG, (5, 2), (5, 1)), self.points(LAG, (5, 1)))
        self.assertEqual(self.points(LAG, (5, 1), (5, 2), (5, 1)), self.points(LAG, (5, 1)))

    def test_at_time_0_and_behind_all(self):
        self.assertEqual(self.points(LAG, (0, 0)), self.points(LAG))
        self.assertEqual(self.points(LAG, (6, 0)), [0] * 7)
        self.assertEqual(self.points(LAG, (6, 2)), [0, 1, 1, 1, 2, 2, 2])
        self.assertEqual(self.points(LAG, (7, 2)), self.points(LAG, (6, 2)))

    def test_points_beyond_all_entries(self):
        self.assertEqual(self.points(LAG, (6, 3)), self.points(LAG))
        self.assertEqual(self.points(LAG, (6, 8)), self.points(LAG))

    def test_the_greatest_that_the_bounds_let(self):
        rng = random.Random(1)
        for timetable in SAMPLES:
            for _ in range(6):
                bounds = drawn_bounds(rng, timetable)
                for time, point in enumerate(self.points(timetable, *bounds)):
                    self.assertTrue(may_go(timetable, bounds, time, point))
                    self.assertFalse(may_go(timetable, bounds, time, point + 1))


class Wrong(unittest.TestCase):
    def check(self, timetable, hold, sweeps, guards):
        wanted = sorted(behind(timetable, hold, sweeps, guards).wrong())
        self.assertEqual(wrong_pairs(timetable, hold, sweeps, guards), wanted)
        return len(wanted)

    def test_beside_a_log(self):
        found = 0
        for at, timetable in enumerate(SAMPLES):
            rng = random.Random(at)
            for hold in (0, 1, 2, 4):
                for sweeps in (sweeps_under(timetable, []), random_sweeps(at, timetable, 6),
                               sweeps_under(timetable, drawn_bounds(rng, timetable))):
                    found += self.check(timetable, hold, sweeps, ())
                    self.check(timetable, hold, sweeps, tuple(g for g in guards_of(timetable) if rng.random() < 0.3))
        self.assertGreater(found, 50)

    def test_guards_left_out(self):
        self.assertEqual(wrong_pairs(LAG, 0, ((4, 2),)), [(0, "a")])
        self.assertEqual(wrong_pairs(LAG, 0, ((4, 2),), (("reader", 0),)), [])

    def test_no_sweeps(self):
        for timetable in SAMPLES:
            self.assertEqual(wrong_pairs(timetable, 0, ()), [])

    def test_several_at_once_ascend(self):
        puts = (("put", "b", 1), ("put", "a", 1), ("join", 10), ("join", 9), ("read", 10, 2), ("read", 9, 2))
        timetable = (*puts, ("drop", "a"), ("drop", "b"), ("read", 10, 4), ("read", 9, 4))
        self.assertEqual(wrong_pairs(timetable, 0, ((8, 4),)), [(9, "a"), (9, "b"), (10, "a"), (10, "b")])
        self.assertEqual(wrong_pairs(timetable, 0, ((9, 4),)), [(9, "a"), (9, "b")])
