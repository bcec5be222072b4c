"""[10]: who must report: the document's examples, chosen cases, things of every kind."""

import itertools
import unittest

from missedmarks.data import guards_of, is_guards, is_sweeps
from missedmarks.guards import (
    against, blocks, fewest_guards, in_danger, is_block, is_enough, least_hold, least_sets, of_use, paper, shows_fewest,
    trade, vital,
)
from missedmarks.stairs import wrong_pairs
from tests.samples import ANY_TWO, BACK, COPIES, CROSS, IN_TURN, LAG, ODD_THINGS, listed

COPY, READER = ("copy", 0), ("reader", 0)
# Two readers, each of whom can miss the mark: who guards for one does not guard for the other one.
BOTH = (
    ("put", "a", 1), ("join", 0), ("join", 1), ("read", 0, 1), ("read", 1, 1), ("drop", "a"), ("wait",),
    ("read", 1, 2), ("wait",), ("read", 0, 2),
)
# Reader 1 lags for longer than reader 0: it alone is enough.
BEHIND = (
    ("put", "a", 1), ("join", 0), ("join", 1), ("read", 0, 1), ("read", 1, 1), ("drop", "a"), ("wait",),
    ("read", 0, 2), ("wait",), ("read", 1, 2),
)


class Examples(unittest.TestCase):
    def test_lag(self):
        self.assertEqual(
            (is_enough(LAG, 1, ()), in_danger(LAG, 1, ()), fewest_guards(LAG, 1), least_hold(LAG), trade(LAG)),
            (False, [(0, "a")], (READER,), 2, [2, 0]),
        )

    def test_back(self):
        self.assertEqual(
            (least_sets(BACK, 0), vital(BACK, 0), of_use(BACK, 0), blocks(BACK, 1), paper(BACK, 2)),
            ([(COPY,)], [COPY], [COPY], [(COPY,)], ((COPY, READER),)),
        )
        self.assertEqual(
            (least_hold(BACK), least_hold(BACK, (READER,)), trade(BACK), least_sets(BACK, 2), paper(BACK, 3)),
            (3, 2, [3, 0, 0], [(COPY,), (READER,)], ()),
        )


class Nobody(unittest.TestCase):
    def test_where_none_are_needed(self):
        for timetable, hold in (((), 0), (LAG, 2), (LAG[:5], 0), (BACK, 3), (CROSS, 1), (BACK, 40)):
            self.assertIs(is_enough(timetable, hold, ()), True)
            self.assertEqual(in_danger(timetable, hold, ()), [])
            self.assertIsNone(against(timetable, hold, ()))
            self.assertEqual(fewest_guards(timetable, hold), ())
            self.assertEqual(least_sets(timetable, hold), [()])
            self.assertEqual((vital(timetable, hold), of_use(timetable, hold), blocks(timetable, hold)), ([], [], []))
            self.assertEqual(paper(timetable, hold), ())
            self.assertIs(shows_fewest(timetable, hold, ()), True)
            for count in range(len(guards_of(timetable)) + 1):
                for some in itertools.combinations(guards_of(timetable), count):
                    self.assertIs(is_block(timetable, hold, some), False)
                    self.assertIs(shows_fewest(timetable, hold, (some,)), False)

    def test_without_events(self):
        self.assertEqual((least_hold(()), trade(()), least_hold((), ()), least_hold(LAG[:5])), (0, [0], 0, 0))


class Chosen(unittest.TestCase):
    def test_two_who_lag(self):
        # The mark goes once both that are told are beyond it: reader 0, who lags the longest, is enough.
        self.assertEqual(least_sets(BOTH, 0), [(READER,)])
        self.assertEqual(in_danger(BOTH, 0, (("reader", 1),)), [(0, "a")])
        self.assertEqual(in_danger(BOTH, 0, ()), [(0, "a"), (1, "a")])
        self.assertEqual((trade(BOTH), least_hold(BOTH, (("reader", 1),))), ([4, 0, 0], 4))
        self.assertEqual(least_sets(BEHIND, 0), [(("reader", 1),)])
        self.assertEqual(blocks(BEHIND, 0), [(("reader", 1),)])
        self.assertEqual([fewest_guards(BOTH, hold) for hold in range(5)], [(READER,)] * 4 + [()])

    def test_both_are_needed(self):
        readers = (READER, ("reader", 1))
        for hold in (0, 1):
            self.assertEqual((fewest_guards(IN_TURN, hold), least_sets(IN_TURN, hold)), (readers, [readers]))
            self.assertEqual((vital(IN_TURN, hold), of_use(IN_TURN, hold)), (list(readers), list(readers)))
            self.assertEqual(blocks(IN_TURN, hold), [(one,) for one in readers])
            self.assertEqual(paper(IN_TURN, hold), tuple((one,) for one in readers))
            for less in (((READER,),), ((("reader", 1),),), (readers,), ((READER,), readers)):
                self.assertIs(shows_fewest(IN_TURN, hold, less), False)
            for more in (((READER,), readers, (("reader", 1),)), ((READER,), (("reader", 1),))):
                self.assertIs(shows_fewest(IN_TURN, hold, more), True)
        self.assertEqual(trade(IN_TURN), [2, 2, 0])

    def test_any_two_of_three(self):
        known = guards_of(ANY_TWO)
        twos = list(itertools.combinations(known, 2))
        self.assertEqual((least_sets(ANY_TWO, 2), blocks(ANY_TWO, 2), paper(ANY_TWO, 2)), (twos, twos, tuple(twos)))
        self.assertEqual((vital(ANY_TWO, 2), of_use(ANY_TWO, 2)), ([], known))
        for count in range(4):
            for some in itertools.combinations(twos + [tuple(known)], count):
                right = some in (tuple(twos), tuple(twos + [tuple(known)]))
                self.assertIs(shows_fewest(ANY_TWO, 2, some), right)
        self.assertIs(shows_fewest(ANY_TWO, 2, tuple(sorted(twos + [tuple(known)]))), True)

    def test_against(self):
        for timetable in (LAG, BACK, CROSS, COPIES, BOTH, BEHIND, IN_TURN, ANY_TWO):
            for hold in (0, 1, 2, 3):
                for count in range(len(guards_of(timetable)) + 1):
                    for guards in itertools.combinations(guards_of(timetable), count):
                        self.check_against(timetable, hold, guards)

    def check_against(self, timetable, hold, guards):
        told = against(timetable, hold, guards)
        self.assertIs(told is None, is_enough(timetable, hold, guards))
        if told is not None:
            self.assertIs(is_sweeps(timetable, told), True)
            wrong = wrong_pairs(timetable, hold, told, guards)
            self.assertTrue(wrong)
            self.assertLessEqual(set(wrong), set(in_danger(timetable, hold, guards)))

    def test_all_of_them_are_enough(self):
        for timetable in (LAG, BACK, CROSS, COPIES, BOTH, BEHIND, IN_TURN, ANY_TWO):
            self.assertIs(is_enough(timetable, 0, guards_of(timetable)), True)
            self.assertEqual((least_hold(timetable, tuple(guards_of(timetable))), trade(timetable)[-1]), (0, 0))
            self.assertIs(is_block(timetable, 0, ()), False)


class Things(unittest.TestCase):
    def test_blocks(self):
        for thing, right in (
            ((COPY,), True), ((COPY, READER), True), ((READER,), False), ((), False), ((READER, COPY), False),
            ((COPY, COPY), False), ((("copy", 1),), False), ((COPY, ("reader", 1)), False), ((COPY, None), False),
            ([COPY], False), ((["copy", 0],), False), ((("copy", False),), False), ((("copy", 0, 0),), False),
        ):
            self.assertIs(is_block(BACK, 1, thing), right)
        for thing in ODD_THINGS:
            self.assertIs(is_block(BACK, 1, thing), False)
        self.assertIs(is_block(BACK, 2, (COPY,)), False)
        self.assertIs(is_block(BACK, 2, (COPY, READER)), True)

    def test_papers(self):
        one, two = (COPY,), (COPY, READER)
        for thing, right in (
            ((one,), True), ((two,), True), ((one, two), True), ((two, one), False), ((one, one), False), ((), False),
            (one, False), ([one], False), (([COPY],), False), (((READER,),), False), ((one, (READER,)), False),
            (((),), False), (((), one), False), ((((("copy"), False),),), False), (None, False), ((None,), False),
            ((two, None), False), (((("copy", 0), ("reader", False)),), False), (listed((one,)), False),
        ):
            self.assertIs(shows_fewest(BACK, 1, thing), right, thing)
        for thing in ODD_THINGS:
            self.assertIs(shows_fewest(BACK, 1, thing), False)
        self.assertIs(shows_fewest(BACK, 2, (one,)), False)
        self.assertIs(shows_fewest(BACK, 2, (two,)), True)
        for thing in [[], [()], ((),), None, False, 0, "", (one,), (two,)]:
            self.assertIs(shows_fewest(BACK, 3, thing), False)

    def test_guards_that_are_told(self):
        for timetable in (LAG, BACK, CROSS, COPIES, BOTH, BEHIND, IN_TURN, ANY_TWO):
            for hold in (0, 1, 2, 3):
                told = least_sets(timetable, hold) + blocks(timetable, hold) + list(paper(timetable, hold))
                for guards in told + [fewest_guards(timetable, hold)]:
                    self.assertIs(is_guards(timetable, guards), True)
                self.assertIs(shows_fewest(timetable, hold, paper(timetable, hold)), True)
                self.assertIs(shows_fewest(timetable, hold, tuple(sorted(blocks(timetable, hold)))), True)
