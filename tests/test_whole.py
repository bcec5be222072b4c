"""[1] over the whole program: the guarantees (a) to (f) on drawn TIMETABLEs, each asked from outside."""

import random
import unittest

from missedmarks.atonce import at_once, fewest_sweeps, greatest_sets, most_at_once, shows_at_once
from missedmarks.data import entries, guards_of, is_guards, is_sweeps, is_timetable, readers_of
from missedmarks.desk import answers
from missedmarks.guards import fewest_guards, is_enough, least_hold, paper, shows_fewest
from missedmarks.log import Log, run
from missedmarks.mending import first_danger, harms, is_mend, mend, safe_copies, usable_for, with_reads
from missedmarks.paths import pairs
from missedmarks.session import Session
from missedmarks.stairs import sweeps_under, wrong_pairs
from missedmarks.texts import guards_text, sweeps_text, timetable_in, timetable_text
from missedmarks.views import can_be, doubt, doubtful, held_by, shows_doubt, sure, view_of
from missedmarks.wrongs import is_story, may_be_wrong, may_hold, may_pairs, safe_hold, safe_paper, shows_safe, story
from tests.all_sweeps import all_runs, all_wrong, behind, how_many_runs
from tests.samples import crossing_timetable, lagging_timetable, random_sweeps

HOLDS = (0, 1, 2, 3, 5, 8)
NAMES = {"a": "zz", "b": "y", "c": "abcdefgh", "d": "q"}
NUMBERS = {0: 12, 1: 3, 2: 100, 3: 0}


def waiting(seed, timetable):
    """The TIMETABLE with one or two more waits, of three at most."""
    rng = random.Random(seed)
    events = list(timetable)
    for _ in range(rng.randint(1, 2)):
        if sum(event[0] == "wait" for event in events) < 3:
            events.insert(rng.randint(len(events) // 2, len(events)), ("wait",))
    return tuple(events)


def great_timetables(count):
    found, seed = [], 0
    while len(found) < count:
        rng = random.Random(seed)
        if seed % 3:
            timetable = waiting(seed, lagging_timetable(seed, 14, "abcd", 3))
        else:
            timetable = waiting(seed, crossing_timetable(seed, 14, "abc", rng.choice((2, 3)), 6))
        few = len(pairs(timetable)) <= 8 and len(guards_of(timetable)) <= 5
        if few and sum(event[0] == "wait" for event in timetable) <= 4 and (may_pairs(timetable, 1) or seed % 4 == 0):
            found.append(timetable)
        seed += 1
    return found


GREAT = great_timetables(110)


def drawn_guards(seed, timetable):
    rng = random.Random(seed)
    return tuple(guard for guard in guards_of(timetable) if rng.random() < 0.2)


def drawn_rows(seed, timetable):
    """Some SWEEPS, greatest ones and any."""
    rng = random.Random(seed)
    bounds = [[], [(rng.randrange(16), rng.randrange(8))], [(rng.randrange(16), rng.randrange(8)) for _ in range(2)]]
    rows = [sweeps_under(timetable, row) for row in bounds]
    return rows + [random_sweeps(seed + count, timetable, count) for count in (1, 4, 9)]


class Guarantees(unittest.TestCase):
    def each(self):
        for seed, timetable in enumerate(GREAT):
            for hold, guards in ((seed % 3, ()), (seed % 2, drawn_guards(seed, timetable))):
                with self.subTest(timetable=timetable, hold=hold, guards=guards):
                    yield seed, timetable, hold, guards

    def test_a_who_can_hold_what_wrongly(self):
        for seed, timetable, hold, guards in self.each():
            may = may_pairs(timetable, hold, guards)
            for reader, key in pairs(timetable):
                held = may_hold(timetable, hold, reader, key, guards)
                self.assertIs((reader, key) in may, held[-1] >= 0)
                for place in held:
                    sweeps = story(timetable, hold, reader, key, place, guards)
                    log = behind(timetable, hold, sweeps, guards)
                    self.assertEqual(log.held(reader, key), place)
                    self.assertIs((reader, key) in log.wrong(), place >= 0)
                if (reader, key) not in may:
                    thing = safe_paper(timetable, hold, reader, key, guards)
                    self.assertIs(shows_safe(timetable, hold, reader, key, guards, thing), True)
            for sweeps in drawn_rows(seed, timetable):
                log = behind(timetable, hold, sweeps, guards)
                self.assertLessEqual(log.wrong(), set(may))
                for reader, key in pairs(timetable):
                    place = log.held(reader, key)
                    self.assertIs(is_story(timetable, hold, reader, key, place, guards, sweeps), True)

    def test_b_who_can_be_wrong_at_once(self):
        for seed, timetable, hold, guards in self.each():
            greatest = greatest_sets(timetable, hold, guards)
            self.assertEqual(most_at_once(timetable, hold, guards), greatest[0])
            for some in greatest:
                sweeps = fewest_sweeps(timetable, hold, some, guards)
                self.assertLessEqual(set(some), behind(timetable, hold, sweeps, guards).wrong())
            for sweeps in drawn_rows(seed, timetable):
                wrong = behind(timetable, hold, sweeps, guards).wrong()
                self.assertTrue(any(wrong <= set(some) for some in greatest))
                self.assertIs(shows_at_once(timetable, hold, sorted(wrong), sweeps, guards), True)

    def test_c_who_must_report(self):
        for seed, timetable, hold, _ in self.each():
            fewest = fewest_guards(timetable, hold)
            self.assertIs(is_guards(timetable, fewest), True)
            self.assertIs(shows_fewest(timetable, hold, paper(timetable, hold)), True)
            least = least_hold(timetable, fewest)
            self.assertLessEqual(least, hold)
            for sweeps in drawn_rows(seed, timetable):
                self.assertEqual(behind(timetable, hold, sweeps, fewest).wrong(), set())
                self.assertEqual(behind(timetable, least_hold(timetable), sweeps, ()).wrong(), set())
            if least_hold(timetable) > 0:
                self.assertTrue(may_pairs(timetable, least_hold(timetable) - 1))

    def test_d_what_a_reader_can_be_sure_of(self):
        wrong = 0
        for seed, timetable, hold, _ in self.each():
            for sweeps in drawn_rows(seed, timetable):
                log = run(timetable, hold, sweeps)
                for reader in readers_of(timetable):
                    view = view_of(timetable, hold, sweeps, reader)
                    if view and (view[-1][1] > 7 or view[-1][0] > 15):
                        continue
                    self.assertIs(can_be(hold, view), True)
                    self.assertEqual(held_by(view), log.table(reader))
                    self.assertFalse(set(log.wrong(reader)) & set(sure(hold, view)))
                    self.assertLessEqual(set(log.wrong(reader)), set(doubtful(hold, view)))
                    wrong += len(log.wrong(reader))
                    if log.wrong(reader):
                        keys = log.wrong(reader)
                        self.assertIs(shows_doubt(hold, view, keys, (timetable, sweeps)), True)
                        self.assertIs(shows_doubt(hold, view, keys, doubt(hold, view, keys)), True)
        self.assertGreater(wrong, 100)

    def test_e_what_mends(self):
        mended = 0
        for seed, timetable, hold, guards in self.each():
            reads = mend(timetable, hold, guards)
            if reads is not None:
                better = with_reads(timetable, reads)
                self.assertIs(is_mend(timetable, hold, reads, guards), True)
                for sweeps in drawn_rows(seed, better):
                    self.assertEqual(behind(better, hold, sweeps, guards).wrong(), set())
                mended += len(reads)
            for pair in harms(timetable, hold, guards):
                more = set(may_pairs(with_reads(timetable, [pair]), hold, guards))
                self.assertTrue(more - set(may_pairs(timetable, hold, guards)))
            count = first_danger(timetable, hold, guards)
            if count is not None:
                self.assertTrue(may_pairs(timetable[:count], hold, guards))
                self.assertFalse(may_pairs(timetable[:count - 1], hold, guards))
        self.assertGreater(mended, 20)

    def test_e_which_copies_can_be_used(self):
        for seed, timetable, hold, guards in self.each():
            total, reader = len(entries(timetable)), 50
            for copy in safe_copies(timetable, hold, guards):
                for waits in (0, usable_for(timetable, hold, copy, guards) or 0):
                    longer = timetable + (("wait",),) * waits + (("load", reader, copy),)
                    if run(longer, hold).seat(reader) < total:
                        longer += (("read", reader, total),)
                    self.assertIs(is_timetable(longer), True)
                    for sweeps in drawn_rows(seed, longer):
                        self.assertEqual(run(longer, hold, sweeps, guards).wrong(reader), [])

    def test_f_a_session_and_a_desk(self):
        for seed, timetable, hold, guards in self.each():
            session = Session(timetable[:-2], hold, guards)
            session.let(9)
            session.add(timetable[-2])
            session.undo()
            session.undo()
            for event in timetable[-2:]:
                session.add(event)
            fresh = Session(timetable, hold, guards)
            for name in ("timetable", "guards", "may", "most", "mended", "usable"):
                self.assertEqual(getattr(session, name)(), getattr(fresh, name)())
            sweeps = drawn_rows(seed, timetable)[-1]
            self.assertEqual(session.after(sweeps), run(timetable, hold, sweeps, guards))
            self.assertEqual(timetable_in(timetable_text(timetable)), timetable)
            lines = [timetable_text(timetable), "", f"hold {hold}", f"guards {guards_text(guards)}", "may"]
            text = "\n".join(lines + [f"run {sweeps_text(sweeps)}"])
            told = [session.may(), wrong_pairs(timetable, hold, sweeps, guards)]
            wanted = [" ".join(f"{reader}:{key}" for reader, key in row) or "-" for row in told]
            self.assertEqual(answers(text), wanted)


class SmallOnes(unittest.TestCase):
    def test_all_that_is_told_beside_all_sweeps(self):
        found, seed = 0, 0
        while found < 40:
            rng = random.Random(seed)
            timetable = lagging_timetable(seed, rng.randint(8, 12), "aab", 2, 3, 2)
            seed += 1
            if how_many_runs(timetable) > 300:
                continue
            found += 1
            hold, guards = seed % 3, drawn_guards(seed, timetable)
            runs = all_runs(timetable, hold, guards)
            wrong = all_wrong(runs)
            self.assertEqual(may_pairs(timetable, hold, guards), wrong)
            self.assertIs(is_enough(timetable, hold, guards), not wrong)
            self.assertIs(mend(timetable, hold, guards) == (), not wrong)
            self.assertEqual(Session(timetable, hold, guards).may(), wrong)
            longest = max(len(run.wrong()) for run in runs)
            self.assertEqual(len(most_at_once(timetable, hold, guards)), longest)
            least = min(tuple(sorted(run.wrong())) for run in runs if len(run.wrong()) == longest)
            self.assertEqual(most_at_once(timetable, hold, guards), least)
            for reader, key in pairs(timetable):
                self.assertIs(may_be_wrong(timetable, hold, reader, key, guards), (reader, key) in wrong)


class More(unittest.TestCase):
    def test_a_greater_hold_and_one_more_guard(self):
        for seed, timetable in enumerate(GREAT):
            guards = drawn_guards(seed, timetable)
            for less, more in zip(HOLDS, HOLDS[1:]):
                self.assert_safer((timetable, more, guards), (timetable, less, guards))
            for guard in guards_of(timetable):
                again = tuple(sorted({*guards, guard}))
                self.assert_safer((timetable, seed % 3, again), (timetable, seed % 3, guards))

    def assert_safer(self, safer, other):
        self.assertLessEqual(set(may_pairs(*safer)), set(may_pairs(*other)))
        self.assertLessEqual(set(safe_copies(*other)), set(safe_copies(*safer)))
        self.assertLessEqual(len(most_at_once(*safer)), len(most_at_once(*other)))
        sooner, later = first_danger(*other), first_danger(*safer)
        self.assertTrue(later is None or (sooner is not None and sooner <= later))
        for copy in range(sum(event[0] == "save" for event in safer[0])):
            less, more = [usable_for(*case[:2], copy, case[2]) for case in (other, safer)]
            self.assertTrue(more is None or (less is not None and less <= more))
        fewer, many = mend(*safer), mend(*other)
        self.assertTrue(many is None or (fewer is not None and len(fewer) <= len(many)))

    def test_more_waits(self):
        for seed, timetable in enumerate(GREAT):
            hold, guards, longer = seed % 3, drawn_guards(seed, timetable), timetable + (("wait",),)
            self.assertEqual(may_pairs(longer, hold, guards), may_pairs(timetable, hold, guards))
            self.assertEqual(first_danger(longer, hold, guards), first_danger(timetable, hold, guards))
            self.assertLessEqual(set(safe_copies(longer, hold, guards)), set(safe_copies(timetable, hold, guards)))
            for copy in range(sum(event[0] == "save" for event in timetable)):
                less, more = usable_for(longer, hold, copy, guards), usable_for(timetable, hold, copy, guards)
                self.assertEqual(less, more if more is None else max(more - 1, -1))
            # A wait ahead of an EVENT gives marks more time to go.
            at = random.Random(seed).randint(0, len(timetable))
            inside = timetable[:at] + (("wait",),) + timetable[at:]
            self.assertLessEqual(set(may_pairs(timetable, hold, guards)), set(may_pairs(inside, hold, guards)))

    def test_other_names(self):
        for seed, timetable in enumerate(GREAT):
            hold, guards = seed % 3, drawn_guards(seed, timetable)
            changed = tuple(self.other(event) for event in timetable)
            again = tuple(sorted((kind, NUMBERS[at] if kind == "reader" else at) for kind, at in guards))
            self.assertIs(is_timetable(changed), True)
            told = [(NUMBERS[reader], NAMES[key]) for reader, key in may_pairs(timetable, hold, guards)]
            self.assertEqual(may_pairs(changed, hold, again), sorted(told))
            for reader, key in pairs(timetable):
                self.assertEqual(
                    safe_hold(timetable, reader, key, guards), safe_hold(changed, NUMBERS[reader], NAMES[key], again)
                )
            self.assertEqual(first_danger(changed, hold, again), first_danger(timetable, hold, guards))
            self.assertEqual(safe_copies(changed, hold, again), safe_copies(timetable, hold, guards))
            told = sorted((time, NUMBERS[reader]) for time, reader in harms(timetable, hold, guards))
            self.assertEqual(harms(changed, hold, again), told)
            reads, others = mend(timetable, hold, guards), mend(changed, hold, again)
            self.assertEqual(reads and len(reads), others and len(others))
            if reads:
                same = tuple((time, NUMBERS[reader]) for time, reader in reads)
                self.assertIs(is_mend(changed, hold, same, again), True)

    def other(self, event):
        word, *rest = event
        if word in ("put", "drop"):
            return (word, NAMES[rest[0]], *[value * 7 - 999999999 for value in rest[1:]])
        return (word, *[NUMBERS[reader] for reader in rest[:1]], *rest[1:])


class Readings(unittest.TestCase):
    def test_a_log_done_by_hand(self):
        """All of a LAG, as section 1 says it: the reader has a value, and comes by when its mark is gone."""
        log = Log(1)
        log.put("a", 1)
        log.join(0)
        log.read(0, 1)
        log.drop("a")
        self.assertEqual(log.sweep(2), [0])
        log.put("b", 2)
        self.assertEqual((log.there(), log.read(0, 3), log.wrong(0)), ([(2, "b", 2)], [(2, "b", 2)], ["a"]))
        timetable = timetable_in("put a 1\njoin 0\nread 0 1\ndrop a\nput b 2\nread 0 3")
        self.assertEqual(run(timetable, 1, ((4, 2),)), log)
        self.assertIs(at_once(timetable, 1, [(0, "a")]), True)
        self.assertIs(is_sweeps(timetable, fewest_sweeps(timetable, 1, [(0, "a")])), True)
