"""[11]: what a reader knows by itself: the document's examples, chosen cases, things of every kind, errors."""

import random
import unittest

from missedmarks.data import readers_of
from missedmarks.errors import CannotBe, NotJoined
from missedmarks.log import Log
from missedmarks.stairs import sweeps_under
from missedmarks.views import (
    can_be, doubt, doubtful, held_by, is_view, missed_places, most_doubtful, shows_doubt, sure, view_of,
)
from tests.samples import (
    BACK, COPIES, CROSS, LAG, ODD_THINGS, TRIO, crossing_timetable, lagging_timetable, listed, random_sweeps,
)

SWEEPS = ((4, 2), (5, 2))
SEEN = ((2, 1, ((0, "a", 1),)), (5, 3, ((2, "b", 2),)))
NEVER = ((1, 1, ((0, "a", 1),)), (2, 3, ()))
# Both values can have been dropped, and swept away, behind the first READ.
TWO = ((3, 2, ((0, "a", 1), (1, "b", 1))), (6, 4, ()))


def slow_views(timetable, hold, sweeps):
    """The VIEW of each reader, by what a Log returns when it reads; who loads goes on with what the copy had."""
    log, views, saved = Log(hold), {}, []
    for time in range(len(timetable) + 1):
        for moment, point in sweeps:
            if moment == time:
                log.sweep(point)
        if time == len(timetable):
            return views
        word, *rest = timetable[time]
        told = log.do(timetable[time])
        if word == "join":
            views[rest[0]] = ()
        elif word == "read":
            views[rest[0]] += ((time, rest[1], tuple(told)),)
        elif word == "save":
            saved.append(views[rest[0]])
        elif word == "load":
            views[rest[0]] = saved[rest[1]]


class Examples(unittest.TestCase):
    def test_what_was_seen(self):
        self.assertEqual(view_of(LAG, 1, SWEEPS, 0), SEEN)
        self.assertEqual((held_by(SEEN), can_be(4, SEEN)), ([("a", 1), ("b", 2)], True))

    def test_what_is_doubtful(self):
        self.assertEqual(
            (doubtful(1, SEEN), sure(1, SEEN), missed_places(1, SEEN, "a"), doubtful(2, SEEN), most_doubtful(1, SEEN)),
            (["a"], ["b"], [1], [], ("a",)),
        )
        self.assertEqual(
            (shows_doubt(1, SEEN, ["a"], (LAG, SWEEPS)), shows_doubt(1, SEEN, ["b"], (LAG, SWEEPS)),
             doubt(1, SEEN, ["b"])),
            (True, False, None),
        )

    def test_what_cannot_be(self):
        with self.assertRaises(CannotBe) as caught:
            doubtful(2, NEVER)
        self.assertEqual(vars(caught.exception), {})


class IsView(unittest.TestCase):
    def test_views(self):
        for thing in (
            (), SEEN, NEVER, TWO, ((0, 1, ()),), ((15, 7, ()),), ((0, 1, ()), (1, 2, ())), ((10 ** 20, 10 ** 20, ()),),
            ((3, 2, ((0, "abcdefgh", -5),)),), ((3, 2, ((1, "a", None),)),),
            ((0, 2, ((0, "a", 10 ** 30), (1, "a", 0))),),
            ((2, 1, ()), (4, 4, ((1, "a", 1), (3, "a", None)))),
        ):
            self.assertIs(is_view(thing), True)

    def test_one_thing_changed(self):
        for thing in (
            ((0, 0, ()),), ((-1, 1, ()),), ((0, 1, ()), (0, 2, ())), ((2, 1, ()), (1, 2, ())), ((0, 1, ()), (1, 1, ())),
            ((0, 2, ()), (1, 1, ())), ((3, 2, ((2, "a", 1),)),), ((3, 2, ((-1, "a", 1),)),), ((3, 2, ((0, "A", 1),)),),
            ((3, 2, ((0, "", 1),)),), ((3, 2, ((0, "abcdefghi", 1),)),), ((3, 2, ((0, 1, 1),)),),
            ((3, 2, ((0, "a", "1"),)),),
            ((3, 2, ((0, "a", True),)),), ((3, 2, ((False, "a", 1),)),), ((3, 2, ((0, "a", False),)),),
            ((3, 2, ((0, "a", 1), (0, "b", 1))),), ((3, 2, ((1, "a", 1), (0, "a", 1))),), ((3, 2, ((0, "a"),)),),
            ((3, 2, ((0, "a", 1, 1),)),), ((3, 2, ((0, "a", ()),)),), ((True, 2, ()),), ((3, True, ()),), ((3, 2),),
            ((3, 2, (), ()),), ((3, 2, None),), ((None, 2, ()),), (("3", 2, ()),), ((3, 2, ()), None), (3, 2, ()),
            ((2, 1, ()), (4, 4, ((0, "a", 1), (3, "a", None)))), ((2, 1, ()), (4, 4, ((1, "a", 1), (4, "a", None)))),
        ):
            self.assertIs(is_view(thing), False, thing)

    def test_lists(self):
        for thing in ([], list(SEEN), listed(SEEN), (list(SEEN[0]), SEEN[1]), ((2, 1, []),), ((2, 1, [(0, "a", 1)]),),
                      ((2, 1, ([0, "a", 1],)),)):
            self.assertIs(is_view(thing), False)

    def test_values_of_every_kind(self):
        for thing in ODD_THINGS:
            self.assertIs(is_view(thing), False)


class ViewOf(unittest.TestCase):
    def test_beside_a_slow_reading(self):
        gaps = loads = 0
        timetables = [LAG, BACK, CROSS, COPIES, TRIO]
        timetables += [lagging_timetable(seed, 14, "abc") for seed in range(120)]
        timetables += [crossing_timetable(seed, 16, "abc", 3, 6) for seed in range(40)]
        for seed, timetable in enumerate(timetables):
            for hold in (0, 1, 3):
                for sweeps in (sweeps_under(timetable, []), random_sweeps(seed, timetable, 6), ()):
                    views = slow_views(timetable, hold, sweeps)
                    self.assertEqual(sorted(views), readers_of(timetable))
                    for reader, view in views.items():
                        self.assertEqual(view_of(timetable, hold, sweeps, reader), view)
                        self.assertIs(is_view(view), True)
                        gaps += any(len(got) < upto for _, upto, got in view[:1])
                        loads += any(event[:2] == ("load", reader) for event in timetable)
        self.assertGreater(min(gaps, loads), 50)

    def test_loads_and_joins(self):
        self.assertEqual(view_of(BACK, 0, ((5, 2),), 0), ((2, 1, ((0, "a", 1),)), (7, 2, ())))
        self.assertEqual(view_of(BACK[:7], 0, (), 0), ((2, 1, ((0, "a", 1),)),))
        self.assertEqual(view_of(BACK[:6], 0, (), 0), ((2, 1, ((0, "a", 1),)), (5, 2, ((1, "a", None),))))
        self.assertEqual(view_of(COPIES[:12], 0, (), 0), ())
        self.assertEqual(view_of(COPIES, 0, (), 0), ((13, 1, ((0, "a", 5),)),))
        wanted = ((2, 1, ((0, "a", 5),)), (7, 2, ((1, "b", 6),)), (12, 3, ((2, "a", None),)))
        self.assertEqual(view_of(COPIES, 0, (), 2), wanted)

    def test_who_never_joins_or_loads(self):
        for timetable, reader in ((LAG, 1), ((), 0), (LAG[:1], 0), (COPIES, 3)):
            with self.assertRaises(NotJoined) as caught:
                view_of(timetable, 1, (), reader)
            self.assertEqual(vars(caught.exception), {"reader": reader})


class Held(unittest.TestCase):
    def test_the_last_entry_that_was_got(self):
        self.assertEqual(held_by(()), [])
        self.assertEqual(held_by(((3, 2, ((0, "b", 1), (1, "a", 2))),)), [("a", 2), ("b", 1)])
        self.assertEqual(held_by(((3, 2, ((0, "a", 1), (1, "a", 2))),)), [("a", 2)])
        self.assertEqual(held_by(((3, 2, ((0, "a", 1), (1, "a", None))),)), [])
        self.assertEqual(held_by(((3, 2, ((0, "a", None), (1, "a", 7))), (5, 3, ()))), [("a", 7)])
        self.assertEqual(held_by(((3, 1, ((0, "a", 7),)), (5, 3, ((1, "b", 1), (2, "a", None))))), [("b", 1)])
        self.assertEqual(held_by(NEVER), [("a", 1)])


class Chosen(unittest.TestCase):
    def test_nothing_read(self):
        for hold in (0, 1, 40):
            self.assertIs(can_be(hold, ()), True)
            self.assertEqual((doubtful(hold, ()), sure(hold, ()), most_doubtful(hold, ())), ([], [], ()))
            self.assertEqual(missed_places(hold, (), "a"), [])
            self.assertIsNone(doubt(hold, (), ["a"]))

    def test_how_soon(self):
        # A join, the entries and the READs ahead need a time each.
        for upto in range(1, 8):
            for time in range(16):
                got = tuple((place, "a" * (place + 1), 1) for place in range(upto))
                self.assertIs(can_be(40, ((time, upto, got),)), time > upto)
        self.assertIs(can_be(0, ((2, 1, ((0, "a", 1),)), (3, 2, ((1, "b", 1),)))), False)
        self.assertIs(can_be(0, ((2, 1, ((0, "a", 1),)), (4, 2, ((1, "b", 1),)))), True)

    def test_a_gap_takes_a_mark_that_went_or_a_later_entry(self):
        # A mark is covered as soon as it is there, ahead of the join.
        self.assertEqual([can_be(hold, ((2, 1, ()),)) for hold in range(3)], [True, True, False])
        self.assertEqual([can_be(hold, ((3, 1, ()),)) for hold in (0, 1, 2, 3, 40)], [True] * 5)
        self.assertEqual([can_be(hold, ((3, 2, ()),)) for hold in range(4)], [True, True, False, False])

    def test_the_greater_the_hold(self):
        # The first gap can be covered at 5, the second one at 6, one more entry, behind them, at 7.
        late = (TWO[0], (8, 4, ()))
        self.assertEqual([doubtful(hold, late) for hold in range(5)], [["a", "b"]] * 4 + [[]])
        self.assertEqual([sure(hold, late) for hold in range(5)], [[]] * 4 + [["a", "b"]])
        self.assertEqual([most_doubtful(hold, late) for hold in range(5)], [("a", "b")] * 3 + [("a",), ()])
        self.assertEqual([missed_places(hold, late, "a") for hold in range(5)], [[2, 3]] * 3 + [[2], []])
        self.assertEqual([doubt(3, late, keys) is None for keys in (["a"], ["b"], ["b", "a"])], [False, False, True])
        self.assertEqual([can_be(hold, late) for hold in (4, 40)], [True, True])
        self.assertEqual([can_be(hold, TWO) for hold in range(3)], [True, False, False])
        self.assertEqual(most_doubtful(0, TWO), ("a", "b"))

    def test_keys_that_are_not_held(self):
        self.assertEqual(missed_places(1, SEEN, "c"), [])
        for keys in (["c"], ["a", "c"], ["c", "a"]):
            self.assertIsNone(doubt(1, SEEN, keys))

    def test_other_names_and_values(self):
        other = ((2, 1, ((0, "zz", -7),)), (5, 3, ((2, "y", 10 ** 8),)))
        self.assertEqual((doubtful(1, other), sure(1, other), most_doubtful(1, other)), (["zz"], ["y"], ("zz",)))
        keys = "abcdefg"
        many = ((9, 7, tuple((place, keys[place], 1) for place in range(7))),)
        self.assertEqual((doubtful(0, many), sure(0, many)), ([], list(keys)))


class Errors(unittest.TestCase):
    def test_what_cannot_be(self):
        for hold, view in ((2, NEVER), (0, NEVER), (0, ((0, 1, ()),)), (0, ((1, 1, ()),)), (3, TWO),
            (2, ((2, 1, ()),))):
            self.assertIs(can_be(hold, view), False)
            for call, more in ((doubtful, ()), (sure, ()), (most_doubtful, ()), (missed_places, ("a",)),
                               (missed_places, ("zz",)), (doubt, (["a"],)), (doubt, (["zz", "a"],))):
                with self.assertRaises(CannotBe):
                    call(hold, view, *more)
                with self.assertRaises(CannotBe):
                    call(hold, listed(view), *more)
            for thing in ((LAG, SWEEPS), (LAG, ()), ((), ()), None, []):
                for keys in (["a"], ["zz"]):
                    self.assertIs(shows_doubt(hold, view, keys, thing), False)
            self.assertIsInstance(held_by(view), list)


class Shows(unittest.TestCase):
    def test_one_thing_changed(self):
        pair = (LAG, SWEEPS)
        self.assertIs(shows_doubt(1, SEEN, ["a"], pair), True)
        for hold, view, keys in (
            (2, SEEN, ["a"]), (1, SEEN, ["b"]), (1, SEEN, ["a", "b"]), (1, SEEN, ["c"]), (1, SEEN[:1], ["a"]),
            (1, ((2, 1, ((0, "a", 2),)), SEEN[1]), ["a"]), (1, ((2, 1, ((0, "c", 1),)), SEEN[1]), ["c"]),
            (1, (SEEN[0], (6, 3, SEEN[1][2])), ["a"]), (1, (SEEN[0], (5, 2, ())), ["a"]), (1, (), ["a"]),
            (1, ((2, 1, ()), SEEN[1]), ["a"]), (1, (SEEN[0], (5, 3, ())), ["a"]),
        ):
            self.assertIs(shows_doubt(hold, view, keys, pair), False)
        for thing in (
            (LAG, ()), (LAG, ((4, 2), (5, 3), (6, 4))), (LAG, ((5, 2),)), (LAG[:5], ()), (LAG[1:], ()),
            (LAG, ((4, 1),)),
            (LAG[:3] + (("put", "a", 3),) + LAG[4:], SWEEPS), (LAG[:3] + (("drop", "b"),) + LAG[4:], SWEEPS),
            (LAG + (("put", "a", 1),), SWEEPS), (LAG + (("drop", "a"),), SWEEPS), (LAG + (("join", 0),), SWEEPS),
            (LAG, SWEEPS, ()), (LAG,), (SWEEPS, LAG), LAG, SWEEPS,
        ):
            self.assertIs(shows_doubt(1, SEEN, ["a"], thing), False, thing)

    def test_whatever_else_is_done(self):
        for thing in (
            (LAG, ((4, 2),)), (LAG, ((0, 0), (4, 2), (5, 2), (6, 3))), (LAG + (("wait",),), SWEEPS),
            (LAG + (("put", "b", 1), ("join", 1), ("read", 1, 4)), SWEEPS),
            (LAG + (("save", 0), ("load", 7, 0), ("join", 0)), SWEEPS + ((9, 3),)),
            (tuple(("join", 9) if event[0] == "wait" else event for event in LAG), SWEEPS),
            (LAG + (("wait",),) * 300, SWEEPS),
        ):
            self.assertIs(shows_doubt(1, SEEN, ["a"], thing), True)
        # What was read by one reader was read by the one that goes on from its copy.
        pair = (BACK, ((5, 2), (6, 2)))
        view = view_of(*pair[:1], 0, pair[1], 0)
        self.assertIs(shows_doubt(0, view, ["a"], pair), True)
        self.assertEqual((doubtful(0, view), missed_places(0, view, "a")), (["a"], [1]))

    def test_lists_and_values_of_every_kind(self):
        for thing in ODD_THINGS + [
            [LAG, SWEEPS], (list(LAG), SWEEPS), (LAG, list(SWEEPS)), listed((LAG, SWEEPS)), (LAG, None), (None, SWEEPS),
            (LAG, ((4, 2), [5, 2])), (LAG[:5] + (["read", 0, 3],), SWEEPS), (LAG, ((4, True),)),
            (LAG, ((4, 2), (True, 2))),
            ((("put", "a", True),) + LAG[1:], SWEEPS), ("", ""), ((), ()), (LAG, 0), (0, 0), (True, False),
        ]:
            self.assertIs(shows_doubt(1, SEEN, ["a"], thing), False)

    def test_doubts_of_great_views(self):
        rng = random.Random(3)
        shown = 0
        for seed in range(60):
            timetable = lagging_timetable(seed, 16, "abc", 2, 7)
            hold = seed % 3
            for reader in readers_of(timetable):
                view = view_of(timetable, hold, sweeps_under(timetable, []), reader)
                self.assertIs(can_be(hold, view), True)
                told = most_doubtful(hold, view)
                self.assertLessEqual(set(told), set(doubtful(hold, view)))
                self.assertEqual(sorted(doubtful(hold, view) + sure(hold, view)), [key for key, _ in held_by(view)])
                if told:
                    keys = rng.sample(told, len(told))
                    pair = doubt(hold, view, keys)
                    self.assertIs(shows_doubt(hold, view, keys, pair), True)
                    self.assertLessEqual(set(keys), set(slow_wrong(hold, view, pair)))
                    shown += 1
        self.assertGreater(shown, 10)


def slow_wrong(hold, view, pair):
    """The keys that a reader with this VIEW is wrong at behind this TIMETABLE with these SWEEPS, as a Log tells."""
    timetable, sweeps = pair
    readers = [reader for reader, seen in slow_views(timetable, hold, sweeps).items() if seen == view]
    log = Log(hold)
    for time in range(len(timetable) + 1):
        for moment, point in sweeps:
            if moment == time:
                log.sweep(point)
        if time < len(timetable):
            log.do(timetable[time])
    return log.wrong(readers[0])
