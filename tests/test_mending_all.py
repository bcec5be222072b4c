"""[12]: each answer beside all READS and all SWEEPS of small TIMETABLEs, each of these done by a Log."""

import random
import unittest

from missedmarks.data import guards_of, readers_of
from missedmarks.mending import first_danger, harms, is_mend, mend, safe_copies, usable_for
from tests.all_sweeps import all_runs, all_wrong, how_many_runs
from tests.samples import BACK, CROSS, LAG, SLOW, lagging_timetable
from tests.test_mending import EARLY, KEPT, PAIR, all_reads, slow_reads

# Here a read in a wait gets a value that would be gone later, or goes beyond a mark too late.
HARMED = [
    EARLY, (("join", 0), ("put", "a", 1), ("wait",), ("drop", "a"), ("wait",)), (*KEPT[:5], ("wait",), ("wait",)),
    (("join", 0), ("put", "a", 1), ("wait",), ("put", "a", 2), ("wait",), ("drop", "a"), ("wait",), ("read", 0, 3)),
]
CHOSEN = [(), LAG, SLOW, KEPT, PAIR, BACK, BACK + (("wait",),), CROSS] + HARMED


def small_timetables(count, least_waits, copies):
    """TIMETABLEs of which all SWEEPS can be done, with some waits and copies."""
    found, seed = [], 0
    while len(found) < count:
        rng = random.Random(seed)
        timetable = list(lagging_timetable(seed, rng.randint(7, 11), "aab", rng.choice((1, 2)), 3, 2))
        for _ in range(rng.randrange(3)):
            timetable.insert(rng.randint(3, len(timetable)), ("wait",))
        waits = sum(event[0] == "wait" for event in timetable)
        saves = sum(event[0] == "save" for event in timetable)
        few = least_waits <= waits <= 3 and saves >= copies and len(all_reads(timetable)) <= 12
        if few and how_many_runs(timetable) <= 220:
            found.append(tuple(timetable))
        seed += 1
    return found


def drawn_guards(seed, timetable):
    rng = random.Random(seed)
    return tuple(guard for guard in guards_of(timetable) if rng.random() < 0.4)


class Wrong:
    """What all SWEEPS bring about, each TIMETABLE asked once."""

    def __init__(self):
        self.known = {}

    def of(self, timetable, hold, guards):
        case = (tuple(timetable), hold, guards)
        if case not in self.known:
            self.known[case] = set(all_wrong(all_runs(*case)))
        return self.known[case]


WRONG = Wrong()


class Reads(unittest.TestCase):
    @classmethod
    def setUpClass(cls):
        cls.cases = []
        for seed, timetable in enumerate(CHOSEN + small_timetables(60, 1, 0)):
            cls.cases += [(timetable, hold, ()) for hold in range(4)]
            cls.cases.append((timetable, seed % 2, drawn_guards(seed, timetable)))

    def each(self):
        for case in self.cases:
            with self.subTest(case=case):
                yield case

    def test_mend(self):
        several = never = 0
        for timetable, hold, guards in self.each():
            tried = []
            for reads in all_reads(timetable):
                safe = not WRONG.of(slow_reads(timetable, reads), hold, guards)
                self.assertIs(is_mend(timetable, hold, reads, guards), safe)
                tried += [reads] * safe
            wanted = tried[0] if tried else None
            self.assertEqual(mend(timetable, hold, guards), wanted)
            several += wanted is not None and len(wanted) > 0
            never += wanted is None
        self.assertGreater(min(several, never), 8)

    def test_harms(self):
        found = 0
        for timetable, hold, guards in self.each():
            before = WRONG.of(timetable, hold, guards)
            single = [reads[0] for reads in all_reads(timetable) if len(reads) == 1]
            wanted = [pair for pair in single if WRONG.of(slow_reads(timetable, [pair]), hold, guards) - before]
            self.assertEqual(harms(timetable, hold, guards), wanted)
            found += len(wanted)
        self.assertGreater(found, 5)

    def test_first_danger(self):
        sooner = 0
        for timetable, hold, guards in self.each():
            parts = [timetable[:count] for count in range(len(timetable) + 1)]
            unsafe = [len(part) for part in parts if WRONG.of(part, hold, guards)]
            self.assertEqual(first_danger(timetable, hold, guards), unsafe[0] if unsafe else None)
            sooner += bool(unsafe) and unsafe[0] < len(timetable)
        self.assertGreater(sooner, 10)


class Copies(unittest.TestCase):
    def test_beside_a_new_reader(self):
        found = []
        drawn = [timetable for timetable in small_timetables(60, 0, 1) if how_many_runs(timetable) <= 70]
        for seed, timetable in enumerate([KEPT, BACK[:6], BACK] + drawn):
            for hold in range(6):
                for guards in {(), drawn_guards(seed, timetable)}:
                    with self.subTest(timetable=timetable, hold=hold, guards=guards):
                        found += self.check(timetable, hold, guards)
        some = len(found) - found.count(-1) - found.count(None)
        self.assertGreater(min(found.count(-1), found.count(None), some), 8)

    def check(self, timetable, hold, guards):
        for copy in range(sum(event[0] == "save" for event in timetable)):
            safe = [self.is_safe(timetable, hold, copy, waits, guards) for waits in range(hold + 2)]
            # Behind this many waits nothing more can go.
            wanted = None if safe[-1] else max([waits for waits in range(hold + 2) if safe[waits]], default=-1)
            self.assertEqual(usable_for(timetable, hold, copy, guards), wanted)
            self.assertIs(copy in safe_copies(timetable, hold, guards), safe[0])
            yield wanted

    def is_safe(self, timetable, hold, copy, waits, guards):
        total = sum(event[0] in ("put", "drop") for event in timetable)
        reader = 1 + max(readers_of(timetable))
        longer = timetable + (("wait",),) * waits + (("load", reader, copy),)
        last = all_runs(longer, 0)[0].log.seat(reader) < total
        longer += (("read", reader, total),) if last else ()
        return reader not in [who for who, _ in WRONG.of(longer, hold, guards)]
