"""[10]: each answer beside all sets of GUARDs of small TIMETABLEs, each asked with all SWEEPS, done by a Log."""

import itertools
import random
import unittest

from missedmarks.data import guards_of
from missedmarks.guards import (
    against, blocks, fewest_guards, in_danger, is_block, is_enough, least_hold, least_sets, of_use, paper, shows_fewest,
    trade, vital,
)
from missedmarks.wrongs import may_pairs
from tests.all_sweeps import all_runs, all_wrong, behind, how_many_runs
from tests.samples import ANY_TWO, BACK, CROSS, IN_TURN, LAG, crossing_timetable, lagging_timetable

# A reader goes back to a copy, and another one goes on from it.
COPIED = (
    ("put", "a", 1), ("join", 0), ("read", 0, 1), ("save", 0), ("drop", "a"), ("load", 1, 0), ("wait",),
    ("read", 0, 2), ("read", 1, 2), ("load", 0, 0), ("read", 0, 2),
)
# Three ways: a copy of the one who lags the longest, or of any of the others that come by.
WAYS = (
    ("put", "a", 1), ("join", 0), ("read", 0, 1), ("save", 0), ("drop", "a"), ("load", 1, 0), ("read", 0, 2),
    ("save", 1), ("read", 1, 2), ("load", 0, 0), ("load", 0, 0), ("wait",), ("read", 0, 2),
)
CHOSEN = [(timetable, hold) for timetable in ((), LAG, BACK, CROSS, COPIED, WAYS) for hold in range(4)]
CHOSEN += [(IN_TURN, 0), (IN_TURN, 1), (ANY_TWO, 1), (ANY_TWO, 2)]


def small_timetables(count):
    """TIMETABLEs of which all SWEEPS can be done, many with copies, with at most four GUARDs."""
    found, seed = [], 0
    while len(found) < count:
        rng = random.Random(seed)
        if seed % 4:
            timetable = lagging_timetable(seed, rng.randint(9, 14), "aab", rng.choice((1, 2, 3)), rng.choice((2, 3)), 2)
        else:
            timetable = crossing_timetable(seed, rng.randint(9, 12), "ab", 2, 3)
        few = 2 <= len(guards_of(timetable)) <= 4 and how_many_runs(timetable) <= 150
        if few and (may_pairs(timetable, 0) or seed % 9 == 0):
            found.append(timetable)
        seed += 1
    return found


def all_guards(timetable):
    """All GUARDS, by their number, then ascending."""
    known = guards_of(timetable)
    return [some for count in range(len(known) + 1) for some in itertools.combinations(known, count)]


def meets(guards, rows):
    """Whether there is one of these GUARDs in each row."""
    return all(set(guards) & set(row) for row in rows)


def smallest(rows):
    """Those of which no smaller part is there."""
    return [row for row in rows if not any(set(less) < set(row) for less in rows)]


class BesideAllSets(unittest.TestCase):
    @classmethod
    def setUpClass(cls):
        cls.cases = []
        drawn = [(timetable, hold) for timetable in small_timetables(45) for hold in range(4)]
        for timetable, hold in CHOSEN + drawn:
            wrong = {some: all_wrong(all_runs(timetable, hold, some)) for some in all_guards(timetable)}
            cls.cases.append((timetable, hold, wrong))

    def each(self):
        for timetable, hold, wrong in self.cases:
            with self.subTest(timetable=timetable, hold=hold):
                yield timetable, hold, wrong

    def each_with_blocks(self):
        """Each with the GUARDS that are enough, and with all blocks."""
        for timetable, hold, wrong in self.each():
            enough = [some for some in wrong if not wrong[some]]
            others = {some: tuple(one for one in guards_of(timetable) if one not in some) for some in wrong}
            yield timetable, hold, enough, [some for some in wrong if wrong[others[some]]]

    def test_enough(self):
        never = 0
        for timetable, hold, wrong in self.each():
            for guards in wrong:
                self.assertEqual(in_danger(timetable, hold, guards), wrong[guards])
                self.assertIs(is_enough(timetable, hold, guards), not wrong[guards])
                sweeps = against(timetable, hold, guards)
                self.assertIs(sweeps is None, not wrong[guards])
                if sweeps is not None:
                    self.assertTrue(behind(timetable, hold, sweeps, guards).wrong())
                    never += guards != ()
            self.assertEqual(wrong[tuple(guards_of(timetable))], [])
        self.assertGreater(never, 50)

    def test_least_sets(self):
        several = 0
        for timetable, hold, enough, _ in self.each_with_blocks():
            self.assertEqual(fewest_guards(timetable, hold), enough[0])
            self.assertEqual(least_sets(timetable, hold), smallest(enough))
            known = guards_of(timetable)
            self.assertEqual(vital(timetable, hold), [one for one in known if all(one in some for some in enough)])
            useful = [one for one in known if any(one in some for some in smallest(enough))]
            self.assertEqual(of_use(timetable, hold), useful)
            several += len(smallest(enough)) > 1
        self.assertGreater(several, 5)

    def test_blocks(self):
        for timetable, hold, enough, blocking in self.each_with_blocks():
            self.assertEqual(blocks(timetable, hold), smallest(blocking))
            for some in all_guards(timetable):
                self.assertIs(is_block(timetable, hold, some), some in blocking)
                self.assertIs(is_block(timetable, hold, list(some)), False)
                self.assertEqual(some in enough, meets(some, blocking))

    def test_papers(self):
        longer = 0
        for timetable, hold, enough, blocking in self.each_with_blocks():
            few = [some for some in all_guards(timetable) if len(some) < len(enough[0])]
            least = sorted(smallest(blocking))
            tried = [
                rows for count in range(len(least) + 1) for rows in itertools.combinations(least, count)
                if not any(meets(some, rows) for some in few)
            ]
            self.assertEqual(paper(timetable, hold), tried[0])
            longer += len(tried[0]) > 1
            for rows in self.drawn(timetable, hold, blocking):
                right = list(rows) == sorted(set(rows)) and set(rows) <= set(blocking)
                right = right and not any(meets(some, rows) for some in few)
                self.assertIs(shows_fewest(timetable, hold, rows), right)
                self.assertIs(shows_fewest(timetable, hold, list(rows)), False)
        self.assertGreater(longer, 2)

    def drawn(self, timetable, hold, blocking):
        """Some tuples of GUARDS, most of them of blocks."""
        rng = random.Random(len(timetable) + hold)
        for count in (0, 1, 1, 2, 2, 3):
            rows = rng.sample(blocking, min(count, len(blocking)))
            yield tuple(rows)
            yield tuple(sorted(rows))
            yield tuple(sorted(rows + [rng.choice(all_guards(timetable))]))

    def test_holds(self):
        for timetable in {timetable: True for timetable, _, _ in self.cases}:
            enough = {}
            for guards in all_guards(timetable):
                tried = [is_enough(timetable, hold, guards) for hold in range(len(timetable) + 1)]
                self.assertEqual(least_hold(timetable, guards), tried.index(True))
                self.assertEqual(tried, sorted(tried))
                enough.setdefault(len(guards), []).append(tried.index(True))
            self.assertEqual(trade(timetable), [min(holds) for holds in enough.values()])
