"""[9] to [11], [3]: great TIMETABLEs, holds and GUARDS; names, values and waits that make no difference."""

import random
import unittest

from missedmarks.atonce import (
    at_once, fewest_sweeps, greatest_sets, is_knot, knots, most_at_once, shows_at_once, sweeps_for, values_at_once,
)
from missedmarks.data import entries, guards_of, is_guards, is_timetable, readers_of
from missedmarks.guards import (
    against, blocks, fewest_guards, in_danger, is_block, is_enough, least_hold, least_sets, of_use, paper, shows_fewest,
    trade, vital,
)
from missedmarks.paths import pairs
from missedmarks.stairs import sweeps_under
from missedmarks.views import can_be, doubtful, missed_places, most_doubtful, sure, view_of
from missedmarks.wrongs import may_pairs
from tests.all_sweeps import behind
from tests.samples import TRIO, crossing_timetable, lagging_timetable, random_sweeps

HOLDS = (0, 1, 2, 3, 4, 5, 6, 7, 9, 12, 40)
NAMES = {"a": "zz", "b": "y", "c": "abcdefgh", "d": "q"}
NUMBERS = {0: 12, 1: 3, 2: 100, 3: 0}


def great_timetables(count):
    found, seed = [], 0
    while len(found) < count:
        rng = random.Random(seed)
        if seed % 2:
            timetable = lagging_timetable(seed, 16, "abcd", 4)
        else:
            timetable = crossing_timetable(seed, 16, "abcd"[:rng.randint(1, 4)], rng.choice((2, 3, 4)), 8)
        if len(pairs(timetable)) <= 8 and len(guards_of(timetable)) <= 5 and len(may_pairs(timetable, 0)) >= seed % 4:
            found.append(timetable)
        seed += 1
    return found


GREAT = great_timetables(120)


def drawn_guards(seed, timetable):
    rng = random.Random(seed)
    return tuple(guard for guard in guards_of(timetable) if rng.random() < 0.25)


class Great(unittest.TestCase):
    def test_they_are_great(self):
        together = 0
        for timetable in GREAT:
            self.assertTrue(is_timetable(timetable))
            self.assertLessEqual(len(timetable), 16)
            self.assertLessEqual(len(entries(timetable)), 8)
            together += len(most_at_once(timetable, 0)) > 1
        self.assertGreater(together, 20)

    def test_a_greater_hold(self):
        for seed, timetable in enumerate(GREAT):
            for guards in ((), drawn_guards(seed, timetable)):
                told = [greatest_sets(timetable, hold, guards) for hold in HOLDS]
                danger = [in_danger(timetable, hold, guards) for hold in HOLDS]
                for at in range(1, len(HOLDS)):
                    self.assert_within(told[at], told[at - 1])
                    self.assertLessEqual(set(danger[at]), set(danger[at - 1]))
                self.assertEqual((told[-1], danger[-1]), ([()], []))

    def assert_within(self, less, more):
        """Each SET of the one list is in a SET of the other one."""
        for some in less:
            self.assertTrue(any(set(some) <= set(other) for other in more))

    def test_one_more_guard(self):
        for seed, timetable in enumerate(GREAT):
            for hold in (0, 1, 3):
                guards = drawn_guards(seed, timetable)
                told = greatest_sets(timetable, hold, guards)
                for guard in guards_of(timetable):
                    more = tuple(sorted({*guards, guard}))
                    self.assertTrue(is_guards(timetable, more))
                    self.assert_within(greatest_sets(timetable, hold, more), told)
                    self.assertLessEqual(least_hold(timetable, more), least_hold(timetable, guards))
                    if is_enough(timetable, hold, guards):
                        self.assertIs(is_enough(timetable, hold, more), True)

    def test_drawn_sweeps_are_among_what_is_told(self):
        found = 0
        for seed, timetable in enumerate(GREAT):
            hold, guards = seed % 3, drawn_guards(seed, timetable)
            rows = [random_sweeps(seed + count, timetable, count) for count in (2, 6, 12)]
            for sweeps in rows + [sweeps_under(timetable, [(seed % 16, at)]) for at in range(2, 8)]:
                run = behind(timetable, hold, sweeps, guards)
                wrong = tuple(sorted(run.wrong()))
                self.assert_within([wrong], greatest_sets(timetable, hold, guards))
                self.assertIs(at_once(timetable, hold, wrong, guards), True)
                self.assertIs(shows_at_once(timetable, hold, wrong, sweeps, guards), True)
                self.assertLessEqual(len(fewest_sweeps(timetable, hold, wrong, guards)), len(sweeps))
                self.assertFalse(any(set(knot) <= set(wrong) for knot in knots(timetable, hold, guards)))
                values = [value for _, _, value in entries(timetable)]
                told = values_at_once(timetable, hold, wrong, guards)
                self.assertIn(tuple(values[run.held(*pair)] for pair in wrong), told)
                found += len(wrong)
        self.assertGreater(found, 50)

    def test_sets_and_knots(self):
        for seed, timetable in enumerate(GREAT + [TRIO]):
            hold, guards = seed % 2, drawn_guards(seed, timetable) if seed % 3 == 0 else ()
            greatest = greatest_sets(timetable, hold, guards)
            self.assertEqual(sorted({pair for some in greatest for pair in some}), may_pairs(timetable, hold, guards))
            for some in greatest:
                for sweeps in (fewest_sweeps(timetable, hold, some, guards), sweeps_for(timetable, hold, some, guards)):
                    self.assertLessEqual(set(some), behind(timetable, hold, sweeps, guards).wrong())
                for pair in set(pairs(timetable)) - set(some):
                    self.assertIs(at_once(timetable, hold, (*some, pair), guards), False)
            for knot in knots(timetable, hold, guards):
                self.assertIs(at_once(timetable, hold, knot, guards), False)
                self.assertIs(is_knot(timetable, hold, knot, guards), True)
                for at in range(len(knot)):
                    self.assertIs(at_once(timetable, hold, knot[:at] + knot[at + 1:], guards), True)

    def test_guards(self):
        for seed, timetable in enumerate(GREAT):
            hold = seed % 3
            known, least = guards_of(timetable), least_sets(timetable, hold)
            self.assertEqual(trade(timetable), sorted(trade(timetable), reverse=True))
            self.assertEqual((trade(timetable)[0], trade(timetable)[-1]), (least_hold(timetable), 0))
            self.assertEqual(fewest_guards(timetable, hold), least[0])
            fewest = [number for number, wanted in enumerate(trade(timetable)) if wanted <= hold][0]
            self.assertEqual(len(least[0]), fewest)
            self.assertEqual(vital(timetable, hold), [one for one in known if is_block(timetable, hold, (one,))])
            self.assertEqual(of_use(timetable, hold), sorted({one for row in blocks(timetable, hold) for one in row}))
            self.assertIs(shows_fewest(timetable, hold, paper(timetable, hold)), True)
            for at in range(len(paper(timetable, hold))):
                less = paper(timetable, hold)[:at] + paper(timetable, hold)[at + 1:]
                self.assertIs(shows_fewest(timetable, hold, less), False)
            for some in least:
                self.assertIsNone(against(timetable, hold, some))
                for at in range(len(some)):
                    sweeps = against(timetable, hold, some[:at] + some[at + 1:])
                    self.assertTrue(behind(timetable, hold, sweeps, some[:at] + some[at + 1:]).wrong())


class Same(unittest.TestCase):
    def other(self, event):
        word, *rest = event
        if word in ("put", "drop"):
            return (word, NAMES[rest[0]], *[value * 7 - 999999999 for value in rest[1:]])
        return (word, *[NUMBERS[reader] for reader in rest[:1]], *rest[1:])

    def other_entry(self, place, key, value):
        return place, NAMES[key], None if value is None else value - 5

    def other_guards(self, guards):
        return tuple(sorted((kind, NUMBERS[number] if kind == "reader" else number) for kind, number in guards))

    def other_pairs(self, some):
        return tuple(sorted((NUMBERS[reader], NAMES[key]) for reader, key in some))

    def test_other_keys_readers_and_values(self):
        for seed, timetable in enumerate(GREAT):
            hold, guards = seed % 3, drawn_guards(seed, timetable)
            changed = tuple(self.other(event) for event in timetable)
            again = self.other_guards(guards)
            told = greatest_sets(timetable, hold, guards)
            self.assertEqual({self.other_pairs(some) for some in told}, set(greatest_sets(changed, hold, again)))
            told = knots(timetable, hold, guards)
            self.assertEqual({self.other_pairs(some) for some in told}, set(knots(changed, hold, again)))
            self.assertEqual(least_hold(timetable, guards), least_hold(changed, again))
            self.assertEqual(trade(timetable), trade(changed))
            self.assertEqual(len(paper(timetable, hold)), len(paper(changed, hold)))
            for call in (least_sets, blocks):
                wanted = {self.other_guards(some) for some in call(timetable, hold)}
                self.assertEqual(set(call(changed, hold)), wanted)

    def test_a_wait_behind_all(self):
        for seed, timetable in enumerate(GREAT):
            hold, guards, longer = seed % 3, drawn_guards(seed, timetable), timetable + (("wait",),)
            for call in (greatest_sets, knots, most_at_once, in_danger, is_enough):
                self.assertEqual(call(timetable, hold, guards), call(longer, hold, guards))
            for call in (least_sets, blocks, paper, fewest_guards):
                self.assertEqual(call(timetable, hold), call(longer, hold))
            self.assertEqual(trade(timetable), trade(longer))

    def test_views(self):
        for seed, timetable in enumerate(GREAT):
            view = view_of(timetable, 1, random_sweeps(seed, timetable, 8), readers_of(timetable)[0])
            if not view or view[-1][1] > 7:
                continue
            changed = tuple((time, upto, tuple(self.other_entry(*row) for row in got)) for time, upto, got in view)
            later = tuple((time + 1, upto, got) for time, upto, got in view)
            for hold in (0, 1, 2):
                self.assertIs(can_be(hold, view), can_be(hold, changed))
                if can_be(hold, view):
                    self.assertEqual(doubtful(hold, changed), sorted(NAMES[key] for key in doubtful(hold, view)))
                    self.assertEqual(sure(hold, changed), sorted(NAMES[key] for key in sure(hold, view)))
                    self.assertEqual(len(most_doubtful(hold, changed)), len(most_doubtful(hold, view)))
                    for key in NAMES:
                        told = missed_places(hold, view, key)
                        self.assertEqual(missed_places(hold, changed, NAMES[key]), told)
                    # With one more time ahead of all the same entries can still be there.
                    self.assertLessEqual(set(doubtful(hold, view)), set(doubtful(hold, later)))
