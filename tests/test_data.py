"""[4]: EVENTs, TIMETABLEs, SWEEPS, GUARDs, entries; [2] as far as it speaks of them."""

import copy
import unittest

from missedmarks.data import entries, guards_of, is_event, is_guards, is_sweeps, is_timetable, readers_of
from tests.samples import BACK, LAG, ODD_THINGS, listed, nested, random_guards, random_sweeps, random_timetable


class Case(unittest.TestCase):
    def all_are(self, wanted, asked, things):
        """`asked` tells just this bool for each of the things, and changes none."""
        for thing in things:
            before = copy.deepcopy(thing)
            with self.subTest(thing=thing):
                self.assertIs(asked(thing), wanted)
                self.assertEqual(thing, before)


class Examples(unittest.TestCase):
    def test_timetables_and_entries(self):
        self.assertEqual(
            (is_timetable(LAG), is_timetable(LAG[1:]), entries(LAG)),
            (True, False, [(0, "a", 1), (3, "a", None), (4, "b", 2)]),
        )

    def test_sweeps_and_guards(self):
        self.assertEqual(
            (is_sweeps(LAG, ((4, 2), (5, 2))), is_sweeps(LAG, ((4, 3),)), guards_of(LAG),
             is_guards(LAG, (("copy", 0),))),
            (True, False, [("reader", 0)], False),
        )


class Events(Case):
    def test_ordinary_ones(self):
        self.all_are(True, is_event, LAG + BACK + (("wait",),))

    def test_edges_that_are_events(self):
        self.all_are(True, is_event, [
            ("put", "a", 0), ("put", "z", -5), ("put", "abcdefgh", 999999999), ("put", "wait", 10 ** 40),
            ("drop", "put"), ("drop", "zzzzzzzz"), ("join", 0), ("join", 10 ** 9), ("save", 0),
            ("read", 0, 0), ("read", 7, 100), ("load", 0, 0), ("load", 5, 99),
        ])

    def test_no_key(self):
        for key in ("", "abcdefghi", "A", "aB", "a b", " a", "a\n", "a1", "a_", "\u00e4", "\u0430", "-",
                    0, True, None, (), ("a",), ["a"], "a" * 1000):
            self.all_are(False, is_event, [("put", key, 1), ("drop", key)])

    def test_no_number(self):
        for wrong in (True, False, None, "0", "", (), (0,), [], [0]):
            self.all_are(False, is_event, [
                ("put", "a", wrong), ("join", wrong), ("save", wrong),
                ("read", wrong, 1), ("read", 0, wrong), ("load", wrong, 0), ("load", 0, wrong),
            ])

    def test_numbers_below_zero(self):
        self.all_are(False, is_event, [
            ("join", -1), ("save", -1), ("read", -1, 1), ("read", 0, -1), ("load", -1, 0), ("load", 0, -1),
        ])

    def test_words_and_lengths(self):
        self.all_are(False, is_event, [
            ("put",), ("put", "a"), ("put", "a", 1, 1), ("drop",), ("drop", "a", 1), ("join",), ("join", 0, 0),
            ("read", 0), ("read", 0, 1, 2), ("save",), ("save", 0, 0), ("load", 0), ("load", 0, 0, 0), ("wait", 0),
            ("wait", None), ("WAIT",), ("Put", "a", 1), ("sweep", 1), ("", 0), ("wait ",), (("wait",),), ("waits",),
            (["wait"],), (None, 0), (True, 0), (0, 0), ("a", "put", 1), (("put", "a", 1),),
        ])

    def test_lists(self):
        self.all_are(False, is_event, [listed(event) for event in LAG + BACK] + [["wait"]])

    def test_other_values(self):
        self.all_are(False, is_event, ODD_THINGS + [()])


class Timetables(Case):
    def test_ordinary_ones(self):
        self.all_are(True, is_timetable, [LAG, BACK, (), (("wait",),), LAG[:1], LAG + LAG, BACK + LAG])

    def test_random_ones(self):
        for seed in range(40):
            self.all_are(True, is_timetable, [random_timetable(seed, 16)])

    def test_beyond_the_bounds(self):
        puts = tuple(("put", "abcdefgh"[at % 8], 10 ** 20 + at) for at in range(300))
        joins = tuple(("join", reader) for reader in range(50))
        self.all_are(True, is_timetable, [puts, puts + joins + (("read", 49, 300),) + (("save", 49),) * 20])

    def test_reads(self):
        put = ("put", "a", 1)
        self.all_are(True, is_timetable, [
            (put, ("join", 0), ("read", 0, 1)),
            (put, put, ("join", 0), ("read", 0, 1), ("read", 0, 2)),
            (put, ("join", 0), ("read", 0, 1), ("join", 0), ("read", 0, 1)),
            (put, ("join", 0), ("save", 0), ("read", 0, 1), ("load", 0, 0), ("read", 0, 1)),
            (put, ("join", 0), ("save", 0), ("load", 1, 0), ("read", 1, 1)),
            (("join", 0), ("drop", "a"), ("read", 0, 1)),
        ])
        self.all_are(False, is_timetable, [
            (put, ("read", 0, 1)),
            (put, ("join", 1), ("read", 0, 1)),
            (put, ("join", 0), ("read", 0, 0)),
            (put, ("join", 0), ("read", 0, 2)),
            (("join", 0), ("read", 0, 1), put),
            (("join", 0), ("read", 0, 1)),
            (("join", 0), ("drop", "a"), ("read", 0, 2)),
            (put, ("join", 0), ("read", 0, 1), ("read", 0, 1)),
            (put, put, ("join", 0), ("read", 0, 2), ("read", 0, 1)),
            (put, ("join", 0), ("wait",), ("read", 0, 2)),
            (put, ("join", 0), ("read", 0, 1), ("save", 0), ("load", 0, 0), ("read", 0, 1)),
            (put, ("join", 0), ("read", 0, 1), ("save", 0), ("join", 1), ("load", 1, 0), ("read", 1, 1)),
        ])

    def test_saves_and_loads(self):
        self.all_are(True, is_timetable, [
            (("join", 0), ("save", 0)),
            (("join", 0), ("save", 0), ("load", 3, 0), ("save", 3), ("load", 0, 1)),
            (("join", 0), ("save", 0), ("save", 0), ("load", 0, 1), ("load", 0, 0)),
        ])
        self.all_are(False, is_timetable, [
            (("save", 0),),
            (("join", 1), ("save", 0)),
            (("save", 0), ("join", 0)),
            (("load", 0, 0),),
            (("join", 0), ("load", 0, 0)),
            (("join", 0), ("load", 0, 0), ("save", 0)),
            (("join", 0), ("save", 0), ("load", 0, 1)),
        ])

    def test_what_is_no_event_or_a_list(self):
        self.all_are(False, is_timetable, [
            list(LAG), listed(LAG), LAG[:5] + (list(LAG[5]),), tuple(list(event) for event in LAG), [],
            LAG + ((),), LAG + (None,), LAG + ("wait",), (("put", "a", True),), (("join", False),), LAG[0], ("wait",),
        ])

    def test_other_values(self):
        self.all_are(False, is_timetable, ODD_THINGS)


class Sweeps(Case):
    def test_ordinary_ones(self):
        for timetable in (LAG, listed(LAG), list(LAG)):
            self.all_are(True, lambda thing: is_sweeps(timetable, thing), [
                (), ((0, 0),), ((6, 3),), ((6, 0), (6, 3), (6, 1)), ((4, 2), (4, 2)), ((5, 3), (6, 2)),
                ((1, 1),), tuple((time, 0) for time in range(7)),
            ])

    def test_random_ones(self):
        for seed in range(40):
            timetable = random_timetable(seed, 16)
            self.all_are(True, lambda thing: is_sweeps(timetable, thing), [random_sweeps(seed, timetable, 9)])

    def test_points_at_each_time(self):
        for time, total in enumerate((0, 1, 1, 1, 2, 3, 3)):
            self.all_are(True, lambda thing: is_sweeps(LAG, thing), [((time, point),) for point in range(total + 1)])
            self.all_are(False, lambda thing: is_sweeps(LAG, thing), [((time, total + 1),), ((time, 100),)])

    def test_wrong_numbers(self):
        self.all_are(False, lambda thing: is_sweeps(LAG, thing), [
            ((-1, 0),), ((7, 0),), ((0, -1),), ((6, -1),), ((6, 4),), ((5, 2), (4, 2)), ((6, 0), (0, 0)),
            ((1, 0), (3, 0), (2, 0)), ((4, 2), (5, 4)), ((True, 0),), ((1, True),), ((6, False),), ((None, 0),),
            (("4", 2),), ((4, "2"),), (((4,), 2),), ((4, [2]),),
        ])

    def test_wrong_forms(self):
        self.all_are(False, lambda thing: is_sweeps(LAG, thing), [
            [], [(4, 2)], ([4, 2],), [[4, 2]], (4, 2), ((4, 2, 2),), ((4,),), ((),), ((4, 2), ()), ((4, 2), None),
            ("42",), "", None, 0, True, False,
        ])

    def test_no_events(self):
        self.all_are(True, lambda thing: is_sweeps((), thing), [(), ((0, 0),), ((0, 0), (0, 0))])
        self.all_are(False, lambda thing: is_sweeps([], thing), [((1, 0),), ((0, 1),), []])

    def test_other_values(self):
        self.all_are(False, lambda thing: is_sweeps(LAG, thing), ODD_THINGS)
        self.assertIs(is_sweeps(timetable=LAG, thing=()), True)


class Guards(Case):
    # Copies 0 and 1, readers 0, 2 and 5.
    MANY = (("join", 2), ("save", 2), ("load", 5, 0), ("save", 5), ("join", 0), ("load", 2, 1))

    def test_ordinary_ones(self):
        known = guards_of(self.MANY)
        for timetable in (self.MANY, listed(self.MANY)):
            self.all_are(True, lambda thing: is_guards(timetable, thing), [
                (), tuple(known), *[(guard,) for guard in known], tuple(known[1:4]), tuple(known[::2]),
            ])

    def test_random_ones(self):
        for seed in range(40):
            known = guards_of(random_timetable(seed, 16))
            thing = random_guards(seed)
            self.assertIs(is_guards(random_timetable(seed, 16), thing), all(guard in known for guard in thing))

    def test_twice_or_not_ascending(self):
        self.all_are(False, lambda thing: is_guards(self.MANY, thing), [
            (("copy", 0), ("copy", 0)), (("reader", 2), ("reader", 2)), (("copy", 1), ("copy", 0)),
            (("reader", 5), ("reader", 0)), (("reader", 0), ("copy", 0)), (("copy", 0), ("reader", 5), ("reader", 2)),
        ])

    def test_who_never_comes(self):
        self.all_are(False, lambda thing: is_guards(self.MANY, thing), [
            (("copy", 2),), (("reader", 1),), (("reader", 3),), (("copy", 0), ("reader", 6)),
            (("copy", -1),), (("reader", -1),), (("reader", 10 ** 20),),
        ])

    def test_wrong_forms(self):
        self.all_are(False, lambda thing: is_guards(self.MANY, thing), [
            [], [("copy", 0)], (["copy", 0],), ("copy", 0), (("copy", 0, 0),), (("copy",),), ((0, "copy"),),
            (("Copy", 0),), (("", 0),), (("readers", 0),), (("copy", "0"),), (("copy", None),), (("copy", False),),
            (("copy", True),), (("reader", False),), (("copy", (0,)),), ((("copy", 0),),), (("copy", 0), None),
            (("copy", 0), ("copy", True)), (("copy", 0), "reader"), ((["copy"], 0),), ((None, 0),), ((True, 0),),
        ])

    def test_nobody(self):
        self.all_are(True, lambda thing: is_guards((), thing), [()])
        self.all_are(False, lambda thing: is_guards([], thing), [(("copy", 0),), (("reader", 0),), []])

    def test_other_values(self):
        self.all_are(False, lambda thing: is_guards(self.MANY, thing), ODD_THINGS)
        self.assertIs(is_guards(timetable=self.MANY, thing=()), True)


class Tellers(unittest.TestCase):
    def test_entries(self):
        self.assertEqual(entries(BACK), [(0, "a", 1), (4, "a", None)])
        self.assertEqual(entries((("wait",), ("drop", "c"), ("put", "c", 0), ("put", "c", -7))),
                         [(1, "c", None), (2, "c", 0), (3, "c", -7)])
        self.assertEqual((entries(()), entries(LAG[1:3])), ([], []))

    def test_readers_of(self):
        self.assertEqual(readers_of(LAG), [0])
        self.assertEqual(readers_of((("join", 10), ("join", 9), ("save", 9), ("load", 2, 0), ("join", 9))), [2, 9, 10])
        self.assertEqual((readers_of(()), readers_of((("put", "join", 3),))), ([], []))

    def test_guards_of(self):
        self.assertEqual(guards_of(BACK), [("copy", 0), ("reader", 0)])
        self.assertEqual(guards_of(Guards.MANY),
                         [("copy", 0), ("copy", 1), ("reader", 0), ("reader", 2), ("reader", 5)])
        self.assertEqual(guards_of((("join", 0),) + (("save", 0),) * 11)[9:],
                         [("copy", 9), ("copy", 10), ("reader", 0)])
        self.assertEqual(guards_of(()), [])

    def test_lists_for_tuples_and_names(self):
        for tell in (entries, readers_of, guards_of):
            for timetable in (LAG, BACK, Guards.MANY, ()):
                wanted = tell(timetable)
                for same in (listed(timetable), list(timetable), tuple(list(event) for event in timetable)):
                    before = copy.deepcopy(same)
                    self.assertEqual(tell(same), wanted)
                    self.assertEqual(tell(timetable=same), wanted)
                    self.assertEqual(same, before)
                self.assertTrue(all(not isinstance(item, list) for item in wanted))

    def test_the_told_list_is_the_callers(self):
        for tell in (entries, readers_of, guards_of):
            told = tell(BACK)
            self.assertIs(told.__class__, list)
            wanted = list(told)
            told.clear()
            self.assertEqual(tell(BACK), wanted)

    def test_things_by_name(self):
        self.assertIs(is_event(thing=("wait",)), True)
        self.assertIs(is_timetable(thing=LAG), True)

    def test_deep_things(self):
        for depth in range(1, 13):
            for make in (tuple, list):
                thing = nested("wait", depth, make)
                self.assertIs(is_event(thing), depth == 1 and make is tuple)
                self.assertIs(is_timetable(thing), depth == 2 and make is tuple)
                self.assertIs(is_timetable(nested(("wait",), depth, make)), depth == 1 and make is tuple)
