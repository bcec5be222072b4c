"""[8]: what a reader may hold: the document's examples, chosen cases, things of every kind, errors."""

import unittest

from missedmarks.data import is_sweeps
from missedmarks.errors import NoPair, NotJoined
from missedmarks.wrongs import (
    gone_by, is_story, may_be_wrong, may_hold, may_pairs, safe_hold, safe_paper, shows_safe, story,
)
from tests.samples import BACK, COPIES, CROSS, LAG, ODD_THINGS, listed

GUARD = (("reader", 0),)
# Two puts of one value, then a mark: the reader always gets the first, then comes by when all are there.
TWICE = (
    ("put", "a", 7), ("join", 0), ("read", 0, 1), ("put", "a", 7), ("drop", "a"), ("read", 0, 2), ("wait",),
    ("read", 0, 3),
)
# A reader that has read both marks of its key, and goes back to a copy from between them.
MARKS = (
    ("put", "a", 1), ("drop", "a"), ("put", "a", 2), ("join", 0), ("read", 0, 2), ("read", 0, 3), ("save", 0),
    ("drop", "a"), ("read", 0, 4), ("load", 0, 0), ("wait",), ("read", 0, 4),
)


class Examples(unittest.TestCase):
    def test_gone_by(self):
        self.assertEqual((gone_by(LAG, 1, 0), gone_by(LAG, 1, 1), gone_by(LAG, 1, 2)), (4, 5, None))

    def test_what_may_be(self):
        self.assertEqual(
            (may_hold(LAG, 1, 0, "a"), may_hold(LAG, 2, 0, "a"), may_hold(LAG, 1, 0, "b"), may_pairs(LAG, 1),
             safe_hold(LAG, 0, "a")),
            ([-1, 0], [-1], [2], [(0, "a")], 2),
        )

    def test_stories(self):
        self.assertEqual(
            (is_story(LAG, 1, 0, "a", 0, (), ((4, 2),)), is_story(LAG, 1, 0, "a", 0, (), ((5, 2),)),
             story(LAG, 2, 0, "a", 0)),
            (True, False, None),
        )

    def test_papers(self):
        self.assertEqual(
            (safe_paper(LAG, 2, 0, "a"), safe_paper(LAG, 0, 0, "a", GUARD), shows_safe(LAG, 2, 0, "a", (), ((0, 2),))),
            (((0, 1),), ((0, 1),), False),
        )

    def test_no_pair(self):
        with self.assertRaises(NoPair) as caught:
            may_be_wrong(LAG, 1, 0, "b")
        self.assertEqual((caught.exception.reader, caught.exception.key), (0, "b"))

    def test_holds_and_pairs_of_other_sections(self):
        self.assertEqual([safe_hold(BACK, 0, "a", guards) for guards in ((), GUARD, (("copy", 0),))], [3, 2, 0])
        self.assertEqual((may_pairs(CROSS, 0), may_pairs(CROSS, 1)), ([(0, "a"), (1, "b")], []))


class Gone(unittest.TestCase):
    def test_hold_counts_events(self):
        drop = (("drop", "a"),) + (("wait",),) * 5
        self.assertEqual([gone_by(drop, hold, 0) for hold in (0, 1, 2, 5, 6, 40)], [1, 2, 3, 6, None, None])

    def test_the_time_behind_all_counts(self):
        self.assertEqual(gone_by((("drop", "a"),), 0, 0), 1)
        self.assertEqual(gone_by((("put", "a", 1), ("put", "a", 2)), 40, 0), 2)

    def test_a_mark_goes_for_a_later_entry_too(self):
        marks = (("drop", "a"), ("wait",), ("drop", "a"), ("wait",), ("wait",))
        self.assertEqual([gone_by(marks, 9, place) for place in (0, 1)], [3, None])
        self.assertEqual([gone_by(marks, 1, place) for place in (0, 1)], [2, 4])

    def test_values_wait_for_nobody(self):
        self.assertEqual([gone_by(LAG, 9, 0, GUARD), gone_by(LAG, 9, 2, GUARD)], [4, None])

    def test_guards_keep_marks(self):
        self.assertEqual([gone_by(LAG, hold, 1, GUARD) for hold in (0, 1, 2, 3)], [6, 6, 6, None])

    def test_a_guard_that_comes_late_keeps_what_is_left(self):
        timetable = (("drop", "a"), ("wait",), ("join", 0), ("wait",), ("read", 0, 1))
        self.assertEqual([gone_by(timetable, hold, 0, GUARD) for hold in range(5)], [1, 2, 5, 5, 5])
        self.assertEqual([gone_by(timetable, hold, 0) for hold in range(5)], [1, 2, 3, 4, 5])

    def test_a_copy_guards_from_its_save_to_the_end(self):
        timetable = (("drop", "a"), ("join", 0), ("save", 0), ("read", 0, 1), ("wait",), ("wait",))
        self.assertEqual([gone_by(timetable, hold, 0, (("copy", 0),)) for hold in range(4)], [1, 2, None, None])


class Hold(unittest.TestCase):
    def test_two_puts_of_one_value_are_told_apart(self):
        told = [may_hold(TWICE, hold, 0, "a") for hold in range(4)]
        self.assertEqual(told, [[-1, 0, 1], [-1, 0, 1], [-1, 0], [-1]])
        self.assertEqual([may_hold(TWICE[:count], 0, 0, "a") for count in (3, 5, 6)], [[0], [0], [0, 1]])
        for thing, place in ((((5, 3),), 0), (((5, 2), (7, 3)), 1), (((6, 3),), 1), ((), -1)):
            for other in (-1, 0, 1, 2):
                self.assertIs(is_story(TWICE, 0, 0, "a", other, (), thing), other == place)

    def test_a_value_that_is_the_last_entry_is_held(self):
        self.assertEqual(may_hold(BACK[:3], 0, 0, "a"), [0])

    def test_a_key_without_an_entry(self):
        self.assertEqual(may_hold(LAG, 1, 0, "zz"), [-1])
        self.assertTrue(is_story(LAG, 1, 0, "zz", -1, (), ()))
        self.assertIsNone(story(LAG, 1, 0, "zz", 0))

    def test_entries_that_the_reader_has_not_read(self):
        self.assertEqual(may_hold(LAG[:2], 0, 0, "a"), [-1])
        self.assertEqual(may_hold(LAG[:5], 0, 0, "a"), [0])
        self.assertEqual(may_hold(LAG[:3] + (("join", 0),), 0, 0, "a"), [-1])

    def test_a_value_of_a_key_that_was_dropped_and_put_again(self):
        again = LAG[:4] + (("put", "a", 3), ("read", 0, 2), ("read", 0, 3))
        self.assertEqual(may_hold(again, 0, 0, "a"), [2])
        self.assertEqual(may_hold(again[:-1], 0, 0, "a"), [-1, 0])
        self.assertEqual(may_hold(again[:-1], 9, 0, "a"), [-1, 0])

    def test_no_value_though_none_of_its_marks_was_got(self):
        late = (("put", "a", 1), ("drop", "a"), ("join", 0), ("read", 0, 2))
        self.assertEqual(may_hold(late, 0, 0, "a"), [-1])
        self.assertEqual(may_hold(late[:3] + (("read", 0, 1),), 0, 0, "a"), [-1, 0])

    def test_a_mark_that_was_got_and_then_left_behind(self):
        self.assertEqual([may_hold(MARKS, hold, 0, "a") for hold in range(6)], [[-1, 2]] * 4 + [[-1]] * 2)

    def test_no_value_only_by_a_mark_in_between(self):
        # The first value is always got, so none is held only if the mark is got, and the value behind it is not.
        timetable = (
            ("put", "a", 1), ("join", 0), ("read", 0, 1), ("drop", "a"), ("read", 0, 2), ("put", "a", 2),
            ("put", "a", 3), ("read", 0, 3),
        )
        self.assertEqual([may_hold(timetable, hold, 0, "a") for hold in range(3)], [[-1, 0, 2], [-1, 2], [-1, 2]])
        self.assertEqual(may_hold(timetable, 0, 0, "a", GUARD), [-1, 2])
        self.assertIs(is_story(timetable, 0, 0, "a", -1, (), ((7, 4),)), True)
        self.assertIs(is_story(timetable, 0, 0, "a", 0, (), ((4, 2), (7, 4))), True)
        self.assertIs(is_story(timetable, 0, 0, "a", 2, (), ((4, 2), (7, 3))), True)

    def test_a_mark_is_got_and_at_the_next_time_the_value_behind_it_is_gone(self):
        puts = (("put", "a", 1), ("join", 0), ("read", 0, 1), ("drop", "a"), ("put", "a", 2), ("put", "a", 3))
        timetable = puts + (("read", 0, 2), ("read", 0, 3))
        self.assertEqual(may_hold(timetable, 0, 0, "a"), [-1, 0, 2])
        self.assertIs(is_story(timetable, 0, 0, "a", -1, (), ((6, 1), (7, 4))), True)

    def test_by_a_copy(self):
        self.assertEqual([may_hold(BACK, hold, 0, "a") for hold in range(4)], [[-1, 0]] * 3 + [[-1]])
        self.assertEqual([may_hold(COPIES, hold, 2, "a") for hold in range(8)], [[-1, 0]] * 6 + [[-1]] * 2)
        told = [may_hold(COPIES, hold, 2, "a", (("copy", 1),)) for hold in range(4)]
        self.assertEqual(told, [[-1, 0]] * 2 + [[-1]] * 2)
        self.assertEqual(may_hold(COPIES, 0, 2, "a", (("copy", 0),)), [-1])
        self.assertEqual(may_hold(BACK[:7], 0, 0, "a"), [0])


class Stories(unittest.TestCase):
    def test_numbers_that_may_hold_does_not_tell(self):
        for place in (-10 ** 9, -2, 1, 2, 3, 4, 10 ** 30):
            self.assertIsNone(story(LAG, 1, 0, "a", place))
            for thing in ((), ((4, 2),), ((5, 2),)):
                self.assertIs(is_story(LAG, 1, 0, "a", place, (), thing), False)
        self.assertIsNone(story(LAG, 1, 0, "b", -1))

    def test_a_story_is_sweeps(self):
        for place in (-1, 0):
            told = story(LAG, 1, 0, "a", place)
            self.assertIs(is_sweeps(LAG, told), True)
            self.assertIs(is_story(LAG, 1, 0, "a", place, (), told), True)
            self.assertIs(is_story(LAG, 1, 0, "a", -1 - place, (), told), False)

    def test_one_thing_changed(self):
        for thing in (((4, 2), (4, 2)), ((4, 0), (4, 2), (6, 1)), ((3, 1), (4, 2)), ((4, 2), (6, 3))):
            self.assertIs(is_story(LAG, 1, 0, "a", 0, (), thing), True)
        for thing in (((4, 1),), ((5, 2),), (), ((4, 2), (3, 1)), ((4, 3),), ((4, 2), (7, 3)), ((4, 2), (6, -1))):
            self.assertIs(is_story(LAG, 1, 0, "a", 0, (), thing), False)

    def test_hold_and_guards(self):
        for hold in (2, 3, 40):
            self.assertIs(is_story(LAG, hold, 0, "a", 0, (), ((4, 2),)), False)
        self.assertIs(is_story(LAG, 0, 0, "a", 0, (), ((5, 2),)), True)
        self.assertIs(is_story(LAG, 0, 0, "a", 0, GUARD, ((4, 2),)), False)
        self.assertIs(is_story(LAG, 0, 0, "a", -1, GUARD, ((4, 2),)), True)

    def test_lists_in_the_place_of_tuples(self):
        for thing in ([(4, 2)], ([4, 2],), [[4, 2]], []):
            self.assertIs(is_story(LAG, 1, 0, "a", 0, (), thing), False)
            self.assertIs(is_story(LAG, 1, 0, "a", -1, (), thing), False)

    def test_values_of_every_kind(self):
        pairs = [((4, True),), ((True, 1),), ((4, 2), None), ((4, "2"),), ((4, 2, 0),), ((4,),), (((4, 2),),)]
        for thing in ODD_THINGS + pairs:
            for place in (-1, 0):
                self.assertIs(is_story(LAG, 1, 0, "a", place, (), thing), False)

    def test_of_a_reader_that_is_no_pair(self):
        self.assertIs(is_story(LAG, 1, 0, "b", 2, (), ((6, 3),)), True)
        self.assertTrue(is_sweeps(LAG, story(LAG, 1, 0, "b", 2)))


class Papers(unittest.TestCase):
    def test_the_least_and_any_that_saves(self):
        # The value at 1 can be gone when the reader comes by: from that at 0 the mark alone saves.
        self.assertEqual([safe_paper(TWICE, hold, 0, "a") for hold in (2, 3)], [None, ((0, 2), (1, 2))])
        self.assertEqual(safe_paper(TWICE, 0, 0, "a", GUARD), ((0, 2), (1, 2)))
        # Ahead of the mark it cannot.
        sooner = TWICE[:4] + (("read", 0, 2), ("drop", "a"), ("read", 0, 3))
        self.assertEqual([safe_paper(sooner, hold, 0, "a") for hold in (0, 1)], [None, ((0, 1), (1, 2))])
        for first in (0, 1, 2, 3):
            self.assertIs(shows_safe(sooner, 1, 0, "a", (), ((0, first), (1, 2))), first in (1, 2))

    def test_wrong_papers(self):
        for thing in (
            (), ((0, 2),), ((1, 2),), ((0, 2), (0, 2)), ((1, 2), (0, 2)), ((0, 2), (1, 2), (1, 2)),
            ((0, 1), (1, 2)), ((0, 2), (1, 1)), ((0, 2), (1, 0)), ((0, 0), (1, 2)), ((0, 3), (1, 2)),
            ((0, 2), (1, -1)), ((0, 2), (2, 2)), ((0, 2), (1, 2), (2, 2)), ((0, 2, 2), (1, 2)), ((0,), (1, 2)),
        ):
            self.assertIs(shows_safe(TWICE, 3, 0, "a", (), thing), False)
        self.assertIs(shows_safe(TWICE, 3, 0, "a", (), ((0, 2), (1, 2))), True)

    def test_lists_and_values_of_every_kind(self):
        paper = ((0, 1),)
        self.assertIs(shows_safe(LAG, 2, 0, "a", (), paper), True)
        for thing in ODD_THINGS + [(), [(0, 1)], ([0, 1],), listed(paper), ((0, True),), ((False, 1),), ((0, "1"),),
                                   ((0, None),), ((0, (1,)),), ((0, [1]),), (0, 1), (((0, 1),),), ("01",), {}, ((),)]:
            self.assertIs(shows_safe(LAG, 2, 0, "a", (), thing), False)

    def test_who_may_be_wrong_has_none(self):
        self.assertIsNone(safe_paper(LAG, 1, 0, "a"))
        for thing in ((), ((0, 1),), ((0, 2),), None):
            self.assertIs(shows_safe(LAG, 1, 0, "a", (), thing), False)

    def test_no_values(self):
        marks = (("drop", "a"), ("join", 0), ("read", 0, 1))
        self.assertEqual(safe_paper(marks, 0, 0, "a"), ())
        self.assertIs(shows_safe(marks, 0, 0, "a", (), ()), True)
        for thing in ([], ((0, 0),), None):
            self.assertIs(shows_safe(marks, 0, 0, "a", (), thing), False)

    def test_values_that_the_reader_did_not_have_to_get(self):
        # Places 0 and 1 were read at once: whoever got 0 got what came at once with it.
        timetable = (("put", "a", 1), ("drop", "a"), ("join", 0), ("read", 0, 2))
        self.assertEqual(safe_paper(timetable, 0, 0, "a"), ((0, 1),))

    def test_by_a_copy(self):
        self.assertEqual([safe_paper(COPIES, hold, 2, "a") for hold in (5, 6)], [None, ((0, 2),)])
        self.assertEqual(safe_paper(COPIES, 0, 2, "a", (("copy", 0),)), ((0, 2),))
        self.assertEqual(safe_paper(BACK, 3, 0, "a"), ((0, 1),))
        self.assertEqual(safe_paper(BACK, 0, 0, "a", (("copy", 0),)), ((0, 1),))
        self.assertIsNone(safe_paper(BACK, 2, 0, "a"))


class Errors(unittest.TestCase):
    def fails(self, error, wanted, call, *arguments):
        with self.assertRaises(error) as caught:
            call(*arguments)
        self.assertIs(caught.exception.__class__, error)
        self.assertEqual(vars(caught.exception), wanted)

    def test_who_never_joins_or_loads(self):
        for timetable, reader in ((LAG, 1), (LAG, 99), ((), 0), (BACK, 1), (LAG[:1], 0), (COPIES, 3)):
            wanted = {"reader": reader}
            for key in ("a", "zz"):
                self.fails(NotJoined, wanted, may_hold, timetable, 1, reader, key)
                self.fails(NotJoined, wanted, story, timetable, 1, reader, key, 0)
                self.fails(NotJoined, wanted, story, timetable, 1, reader, key, -7)
                for thing in ((), ((0, 0),), [], None):
                    self.fails(NotJoined, wanted, is_story, timetable, 1, reader, key, -1, (), thing)

    def test_what_is_no_pair(self):
        for timetable, reader, key in (
            (LAG, 0, "b"), (LAG, 0, "zz"), (LAG, 1, "a"), (LAG, 1, "b"), ((), 0, "a"), (LAG[:5], 0, "a"),
            (BACK[:7], 0, "a"), (CROSS, 0, "b"), (COPIES, 0, "a"), (COPIES, 2, "b"),
        ):
            wanted = {"reader": reader, "key": key}
            self.fails(NoPair, wanted, may_be_wrong, timetable, 1, reader, key)
            self.fails(NoPair, wanted, safe_hold, timetable, reader, key)
            self.fails(NoPair, wanted, safe_paper, timetable, 1, reader, key)
            for thing in ((), ((0, 1),), None):
                self.fails(NoPair, wanted, shows_safe, timetable, 1, reader, key, (), thing)

    def test_pairs_that_cannot_be_wrong_are_no_errors(self):
        for hold in (0, 1, 40):
            self.assertIs(may_be_wrong(CROSS, hold, 1, "a"), False)
        self.assertEqual((safe_hold(CROSS, 1, "a"), safe_paper(CROSS, 0, 1, "a")), (0, ((0, 1),)))

    def test_may_pairs_raises_nothing(self):
        self.assertEqual((may_pairs((), 0), may_pairs(LAG[:5], 0), may_pairs(LAG[:1], 0)), ([], [], []))
