"""[9]: each answer beside all SWEEPS of small TIMETABLEs, each of them done by a Log, with guards and without."""

import itertools
import random
import unittest

from missedmarks.atonce import (
    at_once, fewest_sweeps, greatest_sets, is_knot, knots, most_at_once, shows_at_once, sweeps_for, values_at_once,
)
from missedmarks.data import entries, guards_of, is_sweeps
from missedmarks.paths import pairs
from missedmarks.wrongs import may_pairs
from tests.all_sweeps import all_runs, behind, how_many_runs
from tests.samples import BACK, CROSS, LAG, crossing_timetable, lagging_timetable

CHOSEN = [
    (), LAG, BACK, CROSS,
    # Two values that can both be held, a mark that is read late.
    (("put", "a", 7), ("join", 0), ("read", 0, 1), ("put", "a", 4), ("drop", "a"), ("read", 0, 2), ("wait",),
     ("read", 0, 3)),
    # Two readers at once, of two keys.
    (("put", "a", 1), ("put", "b", 2), ("join", 0), ("join", 1), ("read", 0, 2), ("read", 1, 2), ("drop", "b"),
     ("drop", "a"), ("read", 1, 4), ("read", 0, 4)),
]


def small_timetables(count, most_runs):
    """TIMETABLEs of which all SWEEPS can be done, in most of which somebody wants what another one does not."""
    found, seed = [], 0
    while len(found) < count:
        rng = random.Random(seed)
        if seed % 3 == 0:
            timetable = lagging_timetable(seed, rng.randint(9, 12), "aab", 3, 4)
        else:
            timetable = crossing_timetable(seed, rng.randint(9, 12), rng.choice(("a", "ab")), 2, rng.choice((3, 4)))
        # Of those in which few can be wrong a few are enough.
        if how_many_runs(timetable) <= most_runs and len(may_pairs(timetable, 0)) >= (2 if seed % 8 else 1):
            found.append(timetable)
        seed += 1
    return found


def cases():
    """TIMETABLEs with holds and GUARDS: none, and some."""
    for at, timetable in enumerate(CHOSEN + small_timetables(160, 1500)):
        rng = random.Random(at)
        for hold in (0, 1, 2):
            yield timetable, hold, ()
        guards = tuple(guard for guard in guards_of(timetable) if rng.random() < 0.4)
        if guards:
            yield timetable, rng.randrange(2), guards


def rises(sweeps):
    """How many of these SWEEPS go beyond all ahead of them."""
    return len({point for _, point in sweeps} - {0})


class Told:
    """What all SWEEPS bring about: for each set of pairs that are wrong together the least number of sweeps, and the
    places of the values.
    """

    def __init__(self, timetable, hold, guards):
        self.values = [value for _, _, value in entries(timetable)]
        self.known = pairs(timetable)
        self.fewest, self.places, self.rows = {}, {}, {}
        for run in all_runs(timetable, hold, guards):
            wrong = tuple(sorted(run.wrong()))
            least = min(rises(run.sweeps), self.fewest.get(wrong, 99))
            self.fewest[wrong] = least
            places = tuple(run.held(*pair) if pair in wrong else -1 for pair in self.known)
            self.places.setdefault(wrong, set()).add(places)
            self.rows.setdefault(wrong, []).append(run.sweeps)

    def all_with(self, these):
        return [wrong for wrong in self.fewest if set(these) <= set(wrong)]

    def can(self, these):
        return bool(self.all_with(these))

    def values_of(self, these):
        told = set()
        for wrong in self.all_with(these):
            for places in self.places[wrong]:
                told.add(tuple(self.values[places[self.known.index(pair)]] for pair in these))
        return sorted(told)


class BesideAllSweeps(unittest.TestCase):
    @classmethod
    def setUpClass(cls):
        cls.cases = [(case, Told(*case)) for case in cases()]

    def each(self):
        for case, told in self.cases:
            with self.subTest(case=case):
                yield *case, told

    def each_set(self):
        """Each SET, in some order."""
        for timetable, hold, guards, told in self.each():
            rng = random.Random(len(timetable))
            for count in range(len(told.known) + 1):
                for some in itertools.combinations(told.known, count):
                    yield timetable, hold, guards, told, rng.sample(some, count)

    def test_at_once(self):
        found = 0
        for timetable, hold, guards, told, these in self.each_set():
            self.assertIs(at_once(timetable, hold, these, guards), told.can(these))
            found += len(these) > 1 and told.can(these)
        self.assertGreater(found, 40)

    def test_sweeps(self):
        several = 0
        for timetable, hold, guards, told, these in self.each_set():
            if not told.can(these):
                self.assertIsNone(sweeps_for(timetable, hold, these, guards))
                self.assertIsNone(fewest_sweeps(timetable, hold, these, guards))
                continue
            fewest = fewest_sweeps(timetable, hold, these, guards)
            for sweeps in (fewest, sweeps_for(timetable, hold, these, guards)):
                self.assertIs(is_sweeps(timetable, sweeps), True)
                self.assertLessEqual(set(these), behind(timetable, hold, sweeps, guards).wrong())
                self.assertIs(shows_at_once(timetable, hold, these, sweeps, guards), True)
            self.assertEqual(len(fewest), min(told.fewest[wrong] for wrong in told.all_with(these)))
            several += len(fewest) > 1
        self.assertGreater(several, 10)

    def test_values(self):
        several = 0
        for timetable, hold, guards, told, these in self.each_set():
            values = values_at_once(timetable, hold, these, guards)
            self.assertEqual(values, told.values_of(these))
            several += len(values) > 1
        self.assertGreater(several, 10)

    def test_shows_at_once(self):
        for timetable, hold, guards, told, these in self.each_set():
            rng = random.Random(len(these))
            for wrong in told.rows:
                sweeps = rng.choice(told.rows[wrong])
                self.assertIs(shows_at_once(timetable, hold, these, sweeps, guards), set(these) <= set(wrong))
                self.check_changed(rng, timetable, hold, guards, these, sweeps)

    def check_changed(self, rng, timetable, hold, guards, these, sweeps):
        at = rng.randrange(len(sweeps))
        time, point = sweeps[at]
        other = rng.choice(((time, point + 1), (time, point - 1), (time + 1, point), (time - 1, point), (time, 0)))
        thing = sweeps[:at] + (other,) + sweeps[at + 1:]
        right = is_sweeps(timetable, thing) and set(these) <= behind(timetable, hold, thing, guards).wrong()
        self.assertIs(shows_at_once(timetable, hold, these, thing, guards), right)

    def test_greatest_sets(self):
        several = 0
        for timetable, hold, guards, told in self.each():
            greatest = [some for some in told.fewest if not any(set(some) < set(more) for more in told.fewest)]
            greatest = sorted(greatest, key=lambda some: (-len(some), some))
            self.assertEqual(greatest_sets(timetable, hold, guards), greatest)
            self.assertEqual(most_at_once(timetable, hold, guards), greatest[0])
            several += len(greatest) > 1
        self.assertGreater(several, 5)

    def test_knots(self):
        greater = 0
        for timetable, hold, guards, told in self.each():
            wanted = []
            for count in range(len(told.known) + 1):
                for some in itertools.combinations(told.known, count):
                    less = [some[:at] + some[at + 1:] for at in range(count)]
                    if not told.can(some) and all(told.can(part) for part in less):
                        wanted.append(some)
                    self.assertIs(is_knot(timetable, hold, some, guards), some in wanted)
            self.assertEqual(knots(timetable, hold, guards), wanted)
            greater += any(len(knot) > 1 for knot in wanted)
        self.assertGreater(greater, 5)
