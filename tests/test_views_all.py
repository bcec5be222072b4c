"""[11]: each answer beside a search through all small TIMETABLEs and all their SWEEPS that a small VIEW can fit."""

import itertools
import random
import unittest

from missedmarks.data import is_sweeps, is_timetable, readers_of
from missedmarks.errors import CannotBe
from missedmarks.log import run
from missedmarks.stairs import sweeps_under
from missedmarks.views import (
    can_be, doubt, doubtful, held_by, is_view, missed_places, most_doubtful, shows_doubt, sure, view_of,
)
from tests.all_views import Search, how_free
from tests.samples import lagging_timetable, random_sweeps

HOLDS = (0, 1, 2, 4)
CHOSEN = [
    ((2, 1, ((0, "a", 1),)), (5, 3, ((2, "b", 2),))),
    ((1, 1, ()),), ((2, 1, ()),), ((3, 1, ()),), ((3, 2, ()),), ((4, 2, ((1, "a", None),)),),
    ((1, 1, ((0, "a", 1),)), (2, 3, ())),
    # Both can be held wrongly, one by one or at once.
    ((3, 2, ((0, "a", 1), (1, "b", 1))), (6, 4, ())),
    ((3, 2, ((0, "a", 1), (1, "b", 1))), (5, 3, ())),
    ((3, 2, ((0, "a", 1), (1, "b", 1))), (5, 3, ()), (6, 4, ())),
    ((3, 2, ((0, "a", 1), (1, "b", 1))), (7, 5, ((3, "x", 1),))),
    ((4, 3, ((0, "a", 1), (1, "b", 1), (2, "x", 1))), (7, 5, ())),
    ((4, 3, ((0, "a", 1), (1, "b", 1), (2, "x", 1))), (6, 4, ()), (8, 5, ())),
    # What was got behind a gap, or ahead of it, tells how far sweeps went.
    ((3, 2, ((0, "a", 1), (1, "b", 1))), (6, 4, ((3, "a", 1),))),
    ((3, 2, ((0, "a", 1), (1, "a", 1))), (6, 4, ((2, "b", None),))),
    ((2, 1, ((0, "a", 1),)), (4, 2, ()), (6, 3, ((2, "a", None),))),
    ((2, 1, ((0, "a", 1),)), (4, 2, ()), (6, 3, ((2, "a", 1),))),
    ((4, 3, ((0, "a", None), (2, "b", None))), (6, 4, ())),
]


def drawn_views(count):
    """VIEWs that there are, and some of these with one thing changed."""
    found, seed = [], 0
    while len(found) < count:
        seed += 1
        rng = random.Random(seed)
        timetable = lagging_timetable(seed, rng.randint(5, 9), rng.choice(("a", "ab")), 1, 4)
        if 0 not in readers_of(timetable):
            continue
        sweeps = rng.choice((sweeps_under(timetable, []), random_sweeps(seed, timetable, rng.choice((1, 5, 9)))))
        view = view_of(timetable, rng.randrange(2), sweeps, 0)
        if rng.random() < 0.5 and view:
            view = with_a_change(rng, view)
        if view and is_view(view) and view[-1][0] <= 7 and how_free(view) <= 2 and view not in found:
            found.append(view)
    return found


def with_a_change(rng, view):
    at = rng.randrange(len(view))
    time, upto, got = view[at]
    other = rng.choice((
        (time - 1, upto, got), (time + 1, upto, got), (time, upto, got[1:]), (time, upto, got[:-1]),
        (time, upto + 1, got), (time, upto, tuple((place, "b", value) for place, _, value in got)),
        (time, upto, tuple((place, key, None) for place, key, _ in got)),
    ))
    return view[:at] + (other,) + view[at + 1:]


class BesideAll(unittest.TestCase):
    @classmethod
    def setUpClass(cls):
        cls.cases = [(hold, view, Search(hold, view)) for view in CHOSEN + drawn_views(120) for hold in HOLDS]

    def each(self):
        for hold, view, search in self.cases:
            with self.subTest(hold=hold, view=view):
                yield hold, view, search

    def each_that_can_be(self):
        for hold, view, search in self.each():
            if search.found:
                yield hold, view, search

    def test_can_be(self):
        found = [0, 0]
        for hold, view, search in self.each():
            self.assertIs(can_be(hold, view), bool(search.found))
            found[can_be(hold, view)] += 1
        self.assertGreater(min(found), 50)

    def test_cannot_be(self):
        for hold, view, search in self.each():
            if not search.found:
                for call in (doubtful, sure, most_doubtful):
                    self.assertRaises(CannotBe, call, hold, view)
                for key in ("a", "b", "x"):
                    self.assertRaises(CannotBe, missed_places, hold, view, key)
                    self.assertRaises(CannotBe, doubt, hold, view, [key])

    def test_doubtful_and_sure(self):
        found = [0, 0]
        for hold, view, search in self.each_that_can_be():
            held = [key for key, _ in held_by(view)]
            self.assertEqual(doubtful(hold, view), search.doubtful())
            self.assertEqual(sure(hold, view), [key for key in held if key not in search.doubtful()])
            found[0] += len(sure(hold, view))
            found[1] += len(doubtful(hold, view))
        self.assertGreater(min(found), 30)

    def test_most_doubtful(self):
        several = 0
        for hold, view, search in self.each_that_can_be():
            self.assertEqual(most_doubtful(hold, view), search.most())
            several += len(search.most()) > 1 or len(search.doubtful()) > len(search.most())
        self.assertGreater(several, 2)

    def test_missed_places(self):
        several = 0
        for hold, view, search in self.each_that_can_be():
            for key in ("a", "b", "x"):
                self.assertEqual(missed_places(hold, view, key), search.places(key))
                several += len(search.places(key)) > 1
        self.assertGreater(several, 3)

    def test_doubt(self):
        shown = 0
        for hold, view, search in self.each_that_can_be():
            for count in (1, 2):
                for keys in itertools.permutations(("a", "b", "x"), count):
                    told = doubt(hold, view, list(keys))
                    self.assertIs(told is None, not search.can(keys))
                    if told is not None:
                        shown += 1
                        self.check_doubt(hold, view, keys, told)
        self.assertGreater(shown, 40)

    def check_doubt(self, hold, view, keys, told):
        timetable, sweeps = told
        self.assertIs(told.__class__, tuple)
        self.assertTrue(is_timetable(timetable) and is_sweeps(timetable, sweeps))
        self.assertIs(shows_doubt(hold, view, list(keys), told), True)
        log = run(timetable, hold, sweeps)
        readers = [reader for reader in readers_of(timetable) if view_of(timetable, hold, sweeps, reader) == view]
        self.assertTrue(readers)
        self.assertLessEqual(set(keys), set(log.wrong(readers[0])))
        self.assertLessEqual(len(timetable), 16)
        self.assertLessEqual(log.many(), 8)
