"""[5]: twins, equality, and a Log beside one that is asked anew of all that was done."""

import random
import unittest
from itertools import product
from unittest import mock

from missedmarks.log import Log
from tests.plain_log import PlainLog
from tests.samples import BACK, LAG, random_guards, random_sweeps, random_timetable


def after(hold, guards, deeds):
    """The Log behind these EVENTs and sweeps, the latter as ("sweep", point)."""
    log = Log(hold, guards)
    for deed in deeds:
        if deed[0] == "sweep":
            log.sweep(deed[1])
        else:
            log.do(deed)
    return log


class Equality(unittest.TestCase):
    def check(self, same, one, two):
        self.assertIs(one == two, same)
        self.assertIs(two == one, same)
        self.assertIs(one != two, not same)

    def both(self, one, two):
        """Logs behind two rows of deeds that differ in one thing; each is equal to its own like alone."""
        self.check(False, after(2, (), one), after(2, (), two))
        self.check(True, after(2, (), one), after(2, (), one))
        self.check(True, after(2, (), two), after(2, (), two))

    def test_hold_and_guards(self):
        self.check(True, Log(1), Log(1, ()))
        self.check(True, Log(1), Log(1, []))
        self.check(False, Log(1), Log(2))
        self.check(False, Log(1), Log(1, (("reader", 0),)))
        self.check(False, Log(1, (("copy", 0),)), Log(1, (("reader", 0),)))
        self.check(False, Log(1, (("reader", 0),)), Log(1, (("reader", 1),)))
        self.check(True, Log(1, [["copy", 0], ["reader", 3]]), Log(1, (("copy", 0), ("reader", 3))))

    def test_time(self):
        self.both((), (("wait",),))

    def test_entries(self):
        self.both((("put", "a", 1),), (("put", "a", 2),))
        self.both((("put", "a", 1),), (("put", "b", 1),))
        self.both((("put", "a", 0),), (("drop", "a"),))
        self.both((("put", "a", 1),), (("wait",),))
        self.both((("put", "a", 1), ("put", "b", 1)), (("put", "b", 1), ("put", "a", 1)))

    def test_which_are_gone(self):
        # The same has been covered since the same times: by 1 the value lives on.
        puts = (("put", "a", 1), ("put", "a", 2), ("put", "b", 1))
        self.both((*puts, ("sweep", 1), ("wait",), ("sweep", 2)), (*puts, ("sweep", 2), ("wait",)))
        self.both((*puts, ("sweep", 2)), (*puts, ("sweep", 1)))

    def test_gone_alone(self):
        # Covered at the same time, but a guard that comes one EVENT later lets the mark go.
        guards = (("reader", 0),)
        one = after(1, guards, (("drop", "a"), ("sweep", 1), ("join", 0), ("wait",)))
        two = after(1, guards, (("drop", "a"), ("sweep", 1), ("wait",), ("join", 0)))
        self.assertEqual((one.there(), two.there()), ([(0, "a", None)], []))
        self.assertEqual((one.readers(), one.seat(0), one.now()), (two.readers(), two.seat(0), two.now()))
        self.check(False, one, two)

    def test_since_when_marks_values_and_gone_ones_are_covered(self):
        wait = ("wait",)
        for deeds in ((("drop", "a"), wait), (("put", "a", 1), wait)):
            self.both((*deeds, ("sweep", 1), wait), (*deeds, wait, ("sweep", 1)))
            self.both((*deeds, ("sweep", 1)), (*deeds, ("sweep", 0)))
        puts = (("put", "a", 1), ("put", "a", 2))
        one = after(2, (), (*puts, ("sweep", 1), wait, ("sweep", 2)))
        two = after(2, (), (*puts, wait, ("sweep", 2)))
        self.assertEqual(one.there(), two.there())
        self.check(False, one, two)

    def test_sweeps_that_change_nothing(self):
        deeds = (("drop", "a"), ("sweep", 1), ("wait",))
        self.check(True, after(2, (), deeds), after(2, (), (*deeds, ("sweep", 1), ("sweep", 0))))

    def test_places_and_tables(self):
        put = ("put", "a", 1)
        self.both((put, ("join", 0)), (put, ("wait",)))
        self.both((put, ("join", 0)), (put, ("join", 1)))
        # Places alone: what lies between the places is gone.
        gone = (put, ("put", "a", 2), ("sweep", 2), ("join", 0))
        self.both((*gone, ("read", 0, 1)), (*gone, ("wait",)))
        # Tables alone: one reader was there in time.
        one = (put, ("join", 0), ("read", 0, 1), ("put", "a", 2), ("drop", "a"), ("sweep", 3), ("wait",), ("wait",))
        two = (put, ("join", 0), ("wait",), ("put", "a", 2), ("drop", "a"), ("sweep", 3), ("wait",), ("wait",))
        self.both((*one, ("read", 0, 3)), (*two, ("read", 0, 3)))

    def test_copies(self):
        base = (("put", "a", 1), ("join", 0), ("join", 1), ("read", 1, 1))
        self.both((*base, ("save", 0)), (*base, ("wait",)))
        self.both((*base, ("save", 0)), (*base, ("save", 1)))
        self.both((*base, ("save", 0), ("save", 1)), (*base, ("save", 1), ("save", 0)))
        # Tables in the copies alone.
        row = (("put", "a", 1), ("join", 0), ("join", 1), ("read", 1, 1), ("put", "a", 2), ("drop", "a"), ("sweep", 3),
               ("wait",), ("wait",), ("read", 0, 3), ("read", 1, 3))
        self.both((*row, ("save", 0)), (*row, ("save", 1)))

    def test_how_it_came_about_does_not_count(self):
        one = (("put", "a", 1), ("join", 0), ("join", 1))
        two = (("put", "a", 1), ("join", 1), ("join", 0))
        self.check(True, after(2, (), one), after(2, (), two))

    def test_to_nothing_else(self):
        log = Log(0)
        for other in (None, 0, "", "Log(0 entries, 0 gone)", [], (), {}, Log, object(), [log], repr(log), mock.ANY):
            self.assertIs(log == other, False)
            self.assertIs(log != other, True)
        self.assertIs(log == log, True)


class Twins(unittest.TestCase):
    def test_twins_are_equal_and_apart(self):
        for seed in range(30):
            timetable = random_timetable(seed, 12)
            guards = random_guards(seed)
            log = after(seed % 4, guards, timetable)
            log.sweep(log.many())
            twin = log.twin()
            self.assertIs(twin.__class__, Log)
            self.assertIsNot(twin, log)
            self.assertEqual(twin, log)
            kept = log.twin()
            for event in (("put", "a", 5), ("drop", "b"), ("join", 0), ("read", 0, 1), ("save", 0), ("join", 1),
                          ("load", 0, 0)):
                twin.do(event)
                twin.sweep(twin.many())
                self.assertEqual(log, kept)
                self.assertNotEqual(log, twin)

    def test_twins_go_on_alike(self):
        for cut in range(len(BACK) + 1):
            log = after(1, (("copy", 0),), BACK[:cut])
            log.sweep(log.many())
            twin = log.twin()
            for event in BACK[cut:]:
                self.assertEqual(log.do(event), twin.do(event))
                self.assertEqual(log.sweep(log.many()), twin.sweep(twin.many()))
            self.assertEqual(log, twin)

    def test_a_twin_has_the_guards_and_the_hold(self):
        for guards, left in (((), []), ((("reader", 0),), [(1, "a", None)])):
            log = Log(0, guards)
            for event in LAG[:4]:
                log.do(event)
            twin = log.twin()
            self.assertEqual((log.there(), len(twin)), (twin.there(), 2))
            twin.sweep(2)
            self.assertEqual((twin.there(), len(log)), (left, 2))


class BesidePlain(unittest.TestCase):
    """Each answer beside the one that the document's words give when asked of all that was done."""

    def check_queries(self, log, plain, keys):
        end = plain.end()
        self.assertEqual(log.there(), plain.there(end))
        self.assertEqual(len(log), len(plain.there(end)))
        self.assertEqual(log.now(), plain.time(end))
        self.assertEqual(log.many(), len(plain.entries(end)))
        self.assertEqual(log.readers(), plain.readers(end))
        self.assertEqual(log.copies(), plain.copies(end))
        for reader in log.readers():
            self.assertEqual(log.seat(reader), plain.seat(reader, end))
            self.assertEqual(log.table(reader), sorted(plain.table(reader, end).items()))
            self.assertEqual(log.wrong(reader), plain.wrong(reader, end))
        for key in keys:
            self.assertEqual(log.last(key), plain.last(key, end))
        many = len(plain.entries(end))
        self.assertEqual(repr(log), f"Log({many} entries, {many - len(plain.there(end))} gone)")

    def check_deeds(self, hold, guards, deeds, keys="ab"):
        log, plain = Log(hold, guards), PlainLog(hold, guards)
        for deed in deeds:
            told = log.sweep(deed[1]) if deed[0] == "sweep" else log.do(deed)
            plain.do(deed)
            self.assertEqual(told, plain.answer())
            self.check_queries(log, plain, keys)

    def test_random_deeds(self):
        for seed in range(150):
            timetable = random_timetable(seed, 14)
            sweeps = random_sweeps(seed, timetable, 6)
            deeds = []
            for time in range(len(timetable) + 1):
                deeds += [("sweep", point) for moment, point in sweeps if moment == time]
                deeds += timetable[time:time + 1]
            hold = random.Random(seed).choice((0, 0, 1, 1, 2, 3, 5))
            with self.subTest(seed=seed):
                self.check_deeds(hold, random_guards(seed), deeds)

    def test_great_sweeps_everywhere(self):
        for seed in range(60):
            deeds, total = [], 0
            for event in random_timetable(seed + 1000, 12):
                total += event[0] in ("put", "drop")
                deeds += [event, ("sweep", total)]
            with self.subTest(seed=seed):
                self.check_deeds(seed % 4, random_guards(seed), deeds)

    def test_all_short_rows_of_deeds(self):
        start = [("put", "a", 1), ("join", 0), ("read", 0, 1), ("save", 0), ("drop", "a")]
        steps = [("sweep", 2), ("wait",), ("read", 0, 2), ("load", 0, 0), ("sweep", 1)]
        for guards in ((), (("reader", 0),), (("copy", 0),)):
            for row in product(steps, repeat=3):
                reads = [deed for deed in row if deed[0] in ("read", "load")]
                if any(one == two == ("read", 0, 2) for one, two in zip(reads, reads[1:])):
                    continue
                for hold in (0, 1, 2):
                    self.check_deeds(hold, guards, start + list(row), "a")
