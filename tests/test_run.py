"""[5]: run beside a Log to which the same was done in turn."""

import copy
import unittest

from missedmarks.data import guards_of, is_sweeps, is_timetable
from missedmarks.log import Log, run
from tests.samples import BACK, LAG, listed, random_guards, random_sweeps, random_timetable, tupled


def in_turn(timetable, hold, sweeps, guards):
    """The Log to which the EVENTs and the sweeps were done one by one."""
    log = Log(hold, guards)
    for time in range(len(timetable) + 1):
        for moment, point in sweeps:
            if moment == time:
                log.sweep(point)
        if time < len(timetable):
            log.do(timetable[time])
    return log


class Run(unittest.TestCase):
    def test_beside_a_log(self):
        for seed in range(120):
            timetable = random_timetable(seed, 16)
            sweeps = random_sweeps(seed, timetable, seed % 9)
            guards = random_guards(seed)
            self.assertTrue(is_timetable(timetable) and is_sweeps(timetable, sweeps))
            for hold in (0, 1, 2, 5):
                log = run(timetable, hold, sweeps, guards)
                self.assertIs(log.__class__, Log)
                self.assertEqual(log, in_turn(timetable, hold, sweeps, guards))

    def test_all_guards_keep_everybody_right(self):
        for seed in range(120):
            timetable = random_timetable(seed, 16)
            sweeps = random_sweeps(seed, timetable, 12)
            log = run(timetable, 0, sweeps, guards_of(timetable))
            self.assertEqual([log.wrong(reader) for reader in log.readers()], [[] for _ in log.readers()])

    def test_arguments_left_out(self):
        for seed in range(20):
            timetable = random_timetable(seed, 12)
            sweeps, guards = random_sweeps(seed, timetable, 5), random_guards(seed)
            self.assertEqual(run(timetable, 1), in_turn(timetable, 1, (), ()))
            self.assertEqual(run(timetable, 1, sweeps), in_turn(timetable, 1, sweeps, ()))
            self.assertEqual(run(timetable, 1, guards=guards), in_turn(timetable, 1, (), guards))

    def test_lists_and_names(self):
        for seed in range(20):
            timetable = random_timetable(seed, 12)
            sweeps, guards = random_sweeps(seed, timetable, 5), random_guards(seed)
            wanted = run(timetable, 1, sweeps, guards)
            told = listed(timetable), listed(sweeps), listed(guards)
            before = copy.deepcopy(told)
            self.assertEqual(run(told[0], 1, told[1], told[2]), wanted)
            self.assertEqual(run(guards=told[2], sweeps=list(sweeps), hold=1, timetable=list(timetable)), wanted)
            self.assertEqual(told, before)
            self.assertEqual(tupled(told), (timetable, sweeps, guards))

    def test_nothing_is_shared(self):
        timetable, guards = listed(LAG), [["reader", 0]]
        log = run(timetable, 2, [], guards)
        kept = log.twin()
        timetable[0][2] = 9
        timetable.clear()
        guards[0][1] = 8
        guards.clear()
        self.assertEqual(log, kept)
        self.assertIsNot(run(LAG, 1), run(LAG, 1))

    def test_the_time_of_a_sweep_is_ahead_of_the_event(self):
        self.assertEqual(run(LAG, 1, ((4, 2),)).wrong(0), ["a"])
        self.assertEqual(run(LAG, 1, ((5, 2),)).wrong(0), [])
        self.assertEqual(run(LAG, 0, ((5, 2),)).wrong(0), ["a"])
        self.assertEqual(run(LAG, 0, ((6, 3),)).there(), [(2, "b", 2)])
        self.assertEqual(run(LAG, 0, ((6, 3),)).table(0), [("b", 2)])

    def test_several_sweeps_at_one_time(self):
        self.assertEqual(run(LAG, 0, ((4, 1), (4, 2), (4, 0))), run(LAG, 0, ((4, 2),)))
        log = run((("put", "a", 1), ("put", "a", 2)), 3, ((2, 1), (2, 2)))
        self.assertEqual(log.there(), [(1, "a", 2)])

    def test_no_events(self):
        self.assertEqual(run((), 4), Log(4))
        self.assertEqual(run([], 0, [(0, 0), (0, 0)], [("copy", 2)]), Log(0, (("copy", 2),)))

    def test_guards_of_the_document(self):
        # In back the reader goes back to its copy, which alone must guard where hold is 0.
        sweeps = ((5, 2), (6, 2), (7, 2))
        self.assertEqual(run(BACK, 0, sweeps).wrong(0), ["a"])
        self.assertEqual(run(BACK, 0, sweeps, (("reader", 0),)).wrong(0), ["a"])
        self.assertEqual(run(BACK, 0, sweeps, (("copy", 0),)).wrong(0), [])
        self.assertEqual([run(BACK, hold, sweeps).wrong(0) for hold in (1, 2, 3)], [["a"], ["a"], []])

    def test_sixty_events(self):
        timetable = random_timetable(7, 60, "abcd", 4)
        sweeps = random_sweeps(7, timetable, 30)
        self.assertEqual(run(timetable, 3, sweeps).now(), 60)
        self.assertEqual(run(timetable, 3, sweeps), in_turn(timetable, 3, sweeps, ()))
