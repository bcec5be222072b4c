"""[8]: each answer beside all SWEEPS of small TIMETABLEs, each of them done by a Log."""

import random
import unittest
from itertools import islice, product

from missedmarks.data import entries, guards_of, is_sweeps, readers_of
from missedmarks.paths import pairs
from missedmarks.wrongs import (
    gone_by, is_story, may_be_wrong, may_hold, may_pairs, safe_hold, safe_paper, shows_safe, story,
)
from tests.all_sweeps import all_held, all_runs, all_savers, all_wrong, behind, how_many_runs, least_gone
from tests.samples import BACK, COPIES, CROSS, LAG, lagging_timetable, random_sweeps, random_timetable

HOLDS = range(5)
KEYS = ("a", "b", "c")
CHOSEN = [
    (), LAG, BACK, CROSS, COPIES[:10],
    # A value that is put twice; the reader joins anew in between.
    (("put", "a", 7), ("join", 0), ("read", 0, 1), ("put", "a", 7), ("join", 0), ("read", 0, 1), ("drop", "a"),
     ("read", 0, 2), ("wait",), ("read", 0, 3)),
    # Marks behind marks, read in steps.
    (("put", "a", 1), ("drop", "a"), ("join", 0), ("read", 0, 1), ("drop", "a"), ("read", 0, 2), ("wait",),
     ("drop", "a"), ("read", 0, 4)),
    # A guard that comes late, and one that goes back.
    (("put", "a", 1), ("join", 0), ("save", 0), ("read", 0, 1), ("drop", "a"), ("wait",), ("load", 1, 0),
     ("read", 1, 2), ("read", 0, 2)),
    # A reader that goes back behind a mark that it had read, and comes by it again.
    (("put", "a", 1), ("put", "b", 2), ("join", 0), ("read", 0, 2), ("save", 0), ("drop", "b"), ("drop", "a"),
     ("read", 0, 4), ("load", 0, 0), ("read", 0, 3), ("read", 0, 4)),
]


def small_timetables(count):
    """Lagging TIMETABLEs, and a few of any kind, of which all SWEEPS can be done."""
    found, seed = [], 0
    while len(found) < count:
        rng = random.Random(seed)
        if seed % 6 == 5:
            timetable = random_timetable(seed, 8)
        else:
            timetable = lagging_timetable(
                seed, rng.randint(8, 13), rng.choice(("a", "ab", "aab")), rng.choice((1, 2, 3)), rng.choice((2, 3, 4)),
            )
        if how_many_runs(timetable) <= 500:
            found.append(timetable)
        seed += 1
    return found


def cases():
    """TIMETABLEs with holds and GUARDS: none, and some."""
    for at, timetable in enumerate(CHOSEN + small_timetables(60)):
        rng = random.Random(at)
        for hold in HOLDS:
            yield timetable, hold, ()
            guards = tuple(guard for guard in guards_of(timetable) if rng.random() < 0.4)
            if guards:
                yield timetable, hold, guards


class BesideAllSweeps(unittest.TestCase):
    @classmethod
    def setUpClass(cls):
        cls.cases = [(case, all_runs(*case)) for case in cases()]

    def each(self):
        for case, runs in self.cases:
            with self.subTest(case=case):
                yield *case, runs

    def each_reader(self):
        for timetable, hold, guards, runs in self.each():
            for reader, key in product(readers_of(timetable), KEYS):
                yield timetable, hold, guards, runs, reader, key

    def test_the_runs_are_all_sweeps(self):
        for timetable, _, _, runs in self.each():
            self.assertEqual(len({run.sweeps for run in runs}), how_many_runs(timetable))
            self.assertTrue(all(is_sweeps(timetable, run.sweeps) for run in runs))

    def test_gone_by(self):
        for timetable, hold, guards, runs in self.each():
            for place in range(len(entries(timetable))):
                self.assertEqual(gone_by(timetable, hold, place, guards), least_gone(runs, place))

    def test_may_hold(self):
        several = 0
        for timetable, hold, guards, runs, reader, key in self.each_reader():
            wanted = all_held(runs, reader, key)
            self.assertEqual(may_hold(timetable, hold, reader, key, guards), wanted)
            several += len(wanted) > 1
        self.assertGreater(several, 100)

    def test_may_be_wrong_and_may_pairs(self):
        found = 0
        for timetable, hold, guards, runs in self.each():
            wrong = all_wrong(runs)
            self.assertEqual(may_pairs(timetable, hold, guards), wrong)
            for reader, key in pairs(timetable):
                self.assertIs(may_be_wrong(timetable, hold, reader, key, guards), (reader, key) in wrong)
            found += len(wrong)
        self.assertGreater(found, 100)

    def test_stories(self):
        for timetable, hold, guards, runs, reader, key in self.each_reader():
            held = all_held(runs, reader, key)
            for place in range(-2, len(entries(timetable)) + 1):
                told = story(timetable, hold, reader, key, place, guards)
                if place not in held:
                    self.assertIsNone(told)
                    continue
                self.assertIs(is_sweeps(timetable, told), True)
                self.assertEqual(behind(timetable, hold, told, guards).held(reader, key), place)
                self.assertIs(is_story(timetable, hold, reader, key, place, guards, told), True)

    def test_is_story_of_drawn_runs(self):
        rng = random.Random(5)
        for timetable, hold, guards, runs, reader, key in self.each_reader():
            run = rng.choice(runs)
            for place in range(-2, len(entries(timetable)) + 1):
                wanted = run.held(reader, key) == place
                self.assertIs(is_story(timetable, hold, reader, key, place, guards, run.sweeps), wanted)

    def test_savers(self):
        safe = 0
        for timetable, hold, guards, runs in self.each():
            wrong = all_wrong(runs)
            for reader, key in pairs(timetable):
                savers = all_savers(runs, reader, key)
                self.assertEqual((reader, key) in wrong, not all(savers.values()))
                wanted = None
                if (reader, key) not in wrong:
                    wanted = tuple((place, savers[place][0]) for place in sorted(savers))
                    safe += len(wanted)
                self.assertEqual(safe_paper(timetable, hold, reader, key, guards), wanted)
                lines = [[(place, other) for other in range(len(entries(timetable)))] for place in sorted(savers)]
                for thing in islice(product(*lines), 60):
                    right = all(other in savers[place] for place, other in thing)
                    self.assertIs(shows_safe(timetable, hold, reader, key, guards, thing), right)
        self.assertGreater(safe, 200)

    def test_safe_hold(self):
        for timetable, _, guards, _ in self.each():
            for reader, key in pairs(timetable):
                tried = [may_be_wrong(timetable, hold, reader, key, guards) for hold in range(len(timetable) + 1)]
                self.assertEqual(safe_hold(timetable, reader, key, guards), tried.index(False))
                self.assertEqual(tried, sorted(tried, reverse=True))


class DrawnSweeps(unittest.TestCase):
    """SWEEPS of any kind: several at one time, points that fall, none at some times."""

    def test_is_story_and_may_hold(self):
        for seed in range(150):
            timetable, rng = lagging_timetable(seed, 14, "abc"), random.Random(seed)
            hold, guards = seed % 4, tuple(guard for guard in guards_of(timetable) if rng.random() < 0.2)
            for count in (1, 3, 8, 20):
                self.check(timetable, hold, guards, random_sweeps(seed + count, timetable, count))

    def check(self, timetable, hold, guards, sweeps):
        run = behind(timetable, hold, sweeps, guards)
        for reader, key in product(readers_of(timetable), KEYS):
            held = run.held(reader, key)
            self.assertIn(held, may_hold(timetable, hold, reader, key, guards))
            for place in range(-1, len(entries(timetable))):
                self.assertIs(is_story(timetable, hold, reader, key, place, guards, sweeps), held == place)
        self.assertLessEqual(run.wrong(), set(may_pairs(timetable, hold, guards)))
        for place, time in run.gone.items():
            self.assertLessEqual(gone_by(timetable, hold, place, guards), time)

    def test_stories_with_one_thing_changed(self):
        changed = 0
        for seed in range(80):
            timetable, rng = lagging_timetable(seed, 12), random.Random(seed)
            for reader, key in may_pairs(timetable, seed % 2):
                for place in may_hold(timetable, seed % 2, reader, key):
                    sweeps = story(timetable, seed % 2, reader, key, place)
                    for _ in range(20):
                        thing = self.with_a_change(rng, sweeps)
                        right = is_sweeps(timetable, thing)
                        if right:
                            run = behind(timetable, seed % 2, thing, ())
                            right = run.held(reader, key) == place
                        self.assertIs(is_story(timetable, seed % 2, reader, key, place, (), thing), right)
                        changed += not right
        self.assertGreater(changed, 100)

    def with_a_change(self, rng, sweeps):
        at = rng.randrange(len(sweeps))
        time, point = sweeps[at]
        middle = rng.choice((
            (), ((time, point + 1),), ((time, point - 1),), ((time + 1, point),), ((time - 1, point),), ((time, 0),),
            ((time, point), (time, rng.randint(0, 4))), ((point, time),), ([time, point],), ((time, point, 0),),
            ((time,),),
        ))
        return sweeps[:at] + middle + sweeps[at + 1:]
