"""[1] (a) and (c), [3]: great TIMETABLEs, holds and GUARDs; names, values and waits that make no difference."""

import random
import unittest

from missedmarks.data import entries, guards_of, is_guards, is_sweeps, is_timetable, readers_of
from missedmarks.paths import next_of, pairs, places_at, times_of
from missedmarks.stairs import sweeps_under, wrong_pairs
from missedmarks.wrongs import (
    gone_by, is_story, may_be_wrong, may_hold, may_pairs, safe_hold, safe_paper, shows_safe, story,
)
from tests.all_sweeps import behind
from tests.samples import lagging_timetable, random_sweeps

KEYS = "abcd"
GREAT = [lagging_timetable(seed, 16, KEYS, 4) for seed in range(120)]
HOLDS = (0, 1, 2, 3, 4, 5, 6, 7, 9, 12, 16, 40)


def drawn_guards(seed, timetable):
    rng = random.Random(seed)
    return tuple(guard for guard in guards_of(timetable) if rng.random() < 0.25)


class Great(unittest.TestCase):
    def test_they_are_great(self):
        found = 0
        for timetable in GREAT:
            self.assertTrue(is_timetable(timetable))
            self.assertLessEqual(len(timetable), 16)
            self.assertLessEqual(len(entries(timetable)), 8)
            self.assertLessEqual(sum(event[0] == "save" for event in timetable), 3)
            found += len(may_pairs(timetable, 0))
        self.assertGreater(found, 60)

    def test_a_greater_hold_makes_nobody_wrong(self):
        for seed, timetable in enumerate(GREAT):
            for guards in ((), drawn_guards(seed, timetable)):
                told = [set(may_pairs(timetable, hold, guards)) for hold in HOLDS]
                for less, more in zip(told, told[1:]):
                    self.assertLessEqual(more, less)
                for place in range(len(entries(timetable))):
                    gone = [gone_by(timetable, hold, place, guards) for hold in HOLDS]
                    times = [len(timetable) + 1 if time is None else time for time in gone]
                    self.assertEqual(times, sorted(times))

    def test_more_guards_make_nobody_wrong(self):
        for seed, timetable in enumerate(GREAT):
            for hold in (0, 1, 3):
                guards = drawn_guards(seed, timetable)
                may = set(may_pairs(timetable, hold, guards))
                for guard in guards_of(timetable):
                    more = tuple(sorted({*guards, guard}))
                    self.assertTrue(is_guards(timetable, more))
                    self.assertLessEqual(set(may_pairs(timetable, hold, more)), may)

    def test_a_hold_as_great_as_the_number_of_events(self):
        for timetable in GREAT:
            for hold in (len(timetable), len(timetable) + 1, 40):
                self.assertEqual(may_pairs(timetable, hold), [])
            for reader, key in pairs(timetable):
                self.assertLessEqual(safe_hold(timetable, reader, key), len(timetable))

    def test_a_guard_that_never_loads_is_safe(self):
        for timetable in GREAT:
            loaded = {event[1] for event in timetable if event[0] == "load"}
            for reader in readers_of(timetable):
                wrong = [one for one, _ in may_pairs(timetable, 0, (("reader", reader),))]
                self.assertTrue(reader in loaded or reader not in wrong)

    def test_all_guards_are_enough(self):
        for timetable in GREAT:
            self.assertEqual(may_pairs(timetable, 0, guards_of(timetable)), [])

    def test_safe_hold_by_trying_all_holds(self):
        for seed, timetable in enumerate(GREAT):
            for guards in ((), drawn_guards(seed, timetable)):
                for reader, key in pairs(timetable):
                    tried = [hold for hold in range(41) if not may_be_wrong(timetable, hold, reader, key, guards)]
                    self.assertEqual(safe_hold(timetable, reader, key, guards), tried[0])
                    self.assertEqual(tried, list(range(tried[0], 41)))

    def test_one_answer_beside_the_others(self):
        for seed, timetable in enumerate(GREAT):
            for hold, guards in ((seed % 8, ()), (seed % 3, drawn_guards(seed, timetable))):
                may = may_pairs(timetable, hold, guards)
                for reader, key in pairs(timetable):
                    wrong = may_be_wrong(timetable, hold, reader, key, guards)
                    self.assertIs(wrong, (reader, key) in may)
                    self.assertIs(wrong, may_hold(timetable, hold, reader, key, guards) != [-1])
                    self.assertIs(wrong, hold < safe_hold(timetable, reader, key, guards))
                    paper = safe_paper(timetable, hold, reader, key, guards)
                    self.assertIs(wrong, paper is None)
                    self.assertIs(shows_safe(timetable, hold, reader, key, guards, paper), not wrong)

    def test_stories(self):
        for seed, timetable in enumerate(GREAT):
            hold, guards = seed % 4, drawn_guards(seed, timetable)
            for reader in readers_of(timetable):
                for key in KEYS:
                    self.check_stories(timetable, hold, reader, key, guards)

    def check_stories(self, timetable, hold, reader, key, guards):
        held = may_hold(timetable, hold, reader, key, guards)
        for place in range(-1, len(entries(timetable))):
            told = story(timetable, hold, reader, key, place, guards)
            self.assertIs(told is None, place not in held)
            if told is not None:
                self.assertTrue(is_sweeps(timetable, told))
                self.assertEqual(behind(timetable, hold, told, guards).held(reader, key), place)
                self.assertTrue(is_story(timetable, hold, reader, key, place, guards, told))
                wrong = wrong_pairs(timetable, hold, told, guards)
                pair = (reader, key)
                self.assertIs(pair in wrong, pair in pairs(timetable) and place >= 0)

    def test_what_drawn_sweeps_bring_about(self):
        for seed, timetable in enumerate(GREAT):
            hold, guards = seed % 3, drawn_guards(seed, timetable)
            for sweeps in (random_sweeps(seed, timetable, 7), sweeps_under(timetable, [(seed % 16, seed % 5)])):
                run = behind(timetable, hold, sweeps, guards)
                self.assertLessEqual(run.wrong(), set(may_pairs(timetable, hold, guards)))
                for reader in readers_of(timetable):
                    for key in KEYS:
                        held = run.held(reader, key)
                        self.assertIn(held, may_hold(timetable, hold, reader, key, guards))


class Same(unittest.TestCase):
    """What makes no difference: names, numbers of readers, values, a wait behind all."""

    def told(self, timetable, hold, guards, readers, keys):
        """All that is told of places, by reader and key in this order."""
        rows = [[gone_by(timetable, hold, place, guards) for place in range(len(entries(timetable)))]]
        for reader in [reader for reader in readers if reader in readers_of(timetable)]:
            rows.append(times_of(timetable, reader))
            for key in keys:
                rows.append(may_hold(timetable, hold, reader, key, guards))
                rows.append((reader, key) in may_pairs(timetable, hold, guards))
                if (reader, key) in pairs(timetable):
                    rows.append(safe_hold(timetable, reader, key, guards))
                    rows.append(safe_paper(timetable, hold, reader, key, guards))
        return rows

    def test_other_keys_readers_and_values(self):
        names = {"a": "zz", "b": "y", "c": "abcdefgh", "d": "q"}
        numbers = {0: 12, 1: 3, 2: 100, 3: 0}

        def other(event):
            word, *rest = event
            if word in ("put", "drop"):
                return (word, names[rest[0]], *[value * 7 - 999999999 for value in rest[1:]])
            return (word, *[numbers[reader] for reader in rest[:1]], *rest[1:])

        for seed, timetable in enumerate(GREAT):
            hold, guards = seed % 5, drawn_guards(seed, timetable)
            changed = tuple(other(event) for event in timetable)
            again = tuple(sorted((kind, numbers[at] if kind == "reader" else at) for kind, at in guards))
            self.assertTrue(is_timetable(changed) and is_guards(changed, again))
            self.assertEqual(
                self.told(timetable, hold, guards, numbers, names),
                self.told(changed, hold, again, list(numbers.values()), list(names.values())),
            )
            for place in range(len(entries(timetable))):
                self.assertEqual(next_of(timetable, place), next_of(changed, place))

    def test_a_wait_behind_all(self):
        for seed, timetable in enumerate(GREAT):
            hold, guards = seed % 5, drawn_guards(seed, timetable)
            longer = timetable + (("wait",),)
            self.assertEqual(
                self.told(timetable, hold, guards, range(4), KEYS)[1:],
                self.told(longer, hold, guards, range(4), KEYS)[1:],
            )
            self.assertEqual(places_at(longer), places_at(timetable) + places_at(timetable)[-1:])
            self.assertEqual(pairs(longer), pairs(timetable))
            for place in range(len(entries(timetable))):
                gone = gone_by(timetable, hold, place, guards)
                again = gone_by(longer, hold, place, guards)
                self.assertIn(again, (gone,) if gone is not None else (None, len(longer)))
