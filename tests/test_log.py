"""[5]: what each method and each query of a Log tells, event by event and sweep by sweep."""

import copy
import unittest

from missedmarks.errors import BadPlace, NoCopy, NotJoined
from missedmarks.log import Log, run
from tests.samples import BACK, LAG


def done(log, *events):
    """The Log, behind these EVENTs; a number is a sweep up to this point."""
    for event in events:
        if isinstance(event, int):
            log.sweep(event)
        else:
            log.do(event)
    return log


def places(log):
    return [place for place, _, _ in log.there()]


class Examples(unittest.TestCase):
    def test_first_steps_then_what_follows_then_run(self):
        log = Log(1)
        self.assertEqual(
            (log.put("a", 1), log.join(0), log.read(0, 1), log.drop("a"), log.sweep(2), log.sweep(2), log.there()),
            (0, None, [(0, "a", 1)], 1, [0], [], [(1, "a", None)]),
        )
        self.assertEqual(
            (log.put("b", 2), log.sweep(2), log.read(0, 3), log.table(0), log.wrong(0), repr(log)),
            (2, [], [(2, "b", 2)], [("a", 1), ("b", 2)], ["a"], "Log(3 entries, 2 gone)"),
        )
        self.assertEqual(
            (run(LAG, 1, ((4, 2), (5, 2))) == log, run(LAG, 2, ((4, 2), (5, 2))).wrong(0),
             run(LAG, 0, ((4, 2), (5, 2)), (("reader", 0),)).wrong(0)),
            (True, [], []),
        )
        with self.assertRaises(NoCopy) as caught:
            log.load(0, 0)
        self.assertEqual(caught.exception.copy, 0)


class Events(unittest.TestCase):
    def test_puts_and_drops_tell_their_places(self):
        log = Log(3)
        told = [log.put("a", 5), log.drop("a"), log.wait(), log.drop("zz"), log.put("b", -4)]
        self.assertEqual(told, [0, 1, None, 2, 3])
        self.assertEqual(log.there(), [(0, "a", 5), (1, "a", None), (2, "zz", None), (3, "b", -4)])
        self.assertEqual((log.now(), log.many(), len(log)), (5, 4, 4))

    def test_join_is_bare_also_anew(self):
        log = done(Log(0), ("put", "a", 1))
        self.assertIsNone(log.join(4))
        self.assertEqual((log.seat(4), log.table(4)), (0, []))
        log.read(4, 1)
        self.assertEqual((log.seat(4), log.table(4)), (1, [("a", 1)]))
        self.assertIsNone(log.join(4))
        self.assertEqual((log.seat(4), log.table(4), log.readers()), (0, [], [4]))
        self.assertEqual(log.read(4, 1), [(0, "a", 1)])

    def test_read_gets_what_is_there_upto_left_out(self):
        log = done(Log(9), ("put", "a", 1), ("put", "b", 2), ("drop", "a"), ("put", "b", 3), ("join", 0))
        self.assertEqual(log.read(0, 2), [(0, "a", 1), (1, "b", 2)])
        self.assertEqual(log.table(0), [("a", 1), ("b", 2)])
        self.assertEqual(log.read(0, 3), [(2, "a", None)])
        self.assertEqual((log.table(0), log.seat(0)), ([("b", 2)], 3))
        self.assertEqual(log.read(0, 4), [(3, "b", 3)])
        self.assertEqual(log.table(0), [("b", 3)])

    def test_read_of_what_is_gone(self):
        log = done(Log(9), ("put", "a", 1), ("put", "a", 2), ("drop", "b"), ("join", 0), 2)
        self.assertEqual(log.read(0, 1), [])
        self.assertEqual((log.seat(0), log.table(0)), (1, []))
        self.assertEqual(log.read(0, 3), [(1, "a", 2), (2, "b", None)])
        self.assertEqual(log.table(0), [("a", 2)])

    def test_value_zero_is_no_mark(self):
        log = done(Log(0), ("put", "a", 0), 1, ("join", 0))
        self.assertEqual((log.read(0, 1), log.table(0), places(log)), ([(0, "a", 0)], [("a", 0)], [0]))

    def test_save_and_load(self):
        log = done(Log(9), ("put", "b", 1), ("put", "a", 2), ("join", 0), ("read", 0, 2))
        self.assertEqual(log.save(0), 0)
        done(log, ("drop", "a"), ("read", 0, 3))
        self.assertEqual(log.save(0), 1)
        self.assertEqual(log.copies(), [(2, (("a", 2), ("b", 1))), (3, (("b", 1),))])
        self.assertIsNone(log.load(0, 0))
        self.assertEqual((log.seat(0), log.table(0)), (2, [("a", 2), ("b", 1)]))
        self.assertIsNone(log.load(7, 1))
        self.assertEqual((log.seat(7), log.table(7), log.readers()), (3, [("b", 1)], [0, 7]))

    def test_loaded_tables_are_apart(self):
        log = done(Log(9), ("put", "a", 1), ("join", 0), ("read", 0, 1), ("save", 0), ("load", 1, 0), ("load", 2, 0))
        done(log, ("drop", "a"), ("put", "b", 2), ("read", 1, 3))
        self.assertEqual(log.table(1), [("b", 2)])
        self.assertEqual((log.table(0), log.table(2)), ([("a", 1)], [("a", 1)]))
        self.assertEqual(log.copies(), [(1, (("a", 1),))])

    def test_save_at_the_beginning(self):
        log = done(Log(0), ("join", 3))
        self.assertEqual((log.save(3), log.save(3), log.copies()), (0, 1, [(0, ()), (0, ())]))

    def test_do_returns_what_the_method_returns(self):
        events = BACK[:4] + (("wait",), ("drop", "b"), ("load", 1, 0), ("read", 1, 2), ("save", 1))
        told = [Log.do(log, event) for log in [Log(2)] for event in events]
        self.assertEqual(told, [0, None, [(0, "a", 1)], 0, None, 1, None, [(1, "b", None)], 1])
        log = Log(2)
        self.assertEqual([log.do(event=list(event)) for event in events], told)

    def test_do_raises_what_the_method_raises(self):
        log = done(Log(2), ("join", 0))
        for event, error in ((("read", 1, 1), NotJoined), (("read", 0, 1), BadPlace), (("save", 1), NotJoined),
                             (("load", 0, 0), NoCopy)):
            with self.assertRaises(error):
                log.do(event)
        self.assertEqual(log.now(), 1)

    def test_each_event_takes_one_of_time(self):
        log = Log(0)
        for time, event in enumerate(BACK + (("wait",),)):
            self.assertEqual(log.now(), time)
            log.do(event)
            log.sweep(log.many())
        self.assertEqual(log.now(), len(BACK) + 1)


class SweepsOfValues(unittest.TestCase):
    def test_what_has_a_later_entry_below_the_point_goes(self):
        log = done(Log(5), ("put", "a", 1), ("put", "b", 2), ("put", "a", 3), ("put", "b", 4))
        self.assertEqual((log.sweep(0), log.sweep(1), log.sweep(2)), ([], [], []))
        self.assertEqual((log.sweep(3), places(log)), ([0], [1, 2, 3]))
        self.assertEqual((log.sweep(4), places(log)), ([1], [2, 3]))
        self.assertEqual((log.sweep(4), len(log), log.many()), ([], 2, 4))

    def test_marks_with_a_later_entry_go_at_once_whatever_guards(self):
        log = done(Log(40, (("reader", 0),)), ("join", 0), ("drop", "a"), ("drop", "a"), ("put", "a", 1))
        self.assertEqual((log.sweep(2), log.sweep(3)), ([0], [1]))

    def test_an_entry_whose_later_one_is_gone_already(self):
        log = done(Log(0), ("put", "a", 1), ("put", "b", 1), ("drop", "a"), ("put", "a", 2), ("put", "c", 1))
        self.assertEqual(log.sweep(5), [0, 2])
        # The mark goes for its time, with the value behind it in one sweep.
        log = done(Log(0), ("put", "a", 1), ("drop", "a"))
        self.assertEqual((log.sweep(1), log.sweep(2), log.there()), ([], [0, 1], []))
        # A later value is gone in the same sweep, for a still later one.
        log = done(Log(9), ("put", "a", 1), ("put", "a", 2), ("put", "a", 3))
        self.assertEqual((log.sweep(3), places(log)), ([0, 1], [2]))

    def test_sweeps_take_no_time(self):
        log = done(Log(1), ("drop", "a"))
        for _ in range(5):
            self.assertEqual((log.sweep(1), log.now()), ([], 1))
        log.wait()
        self.assertEqual((log.there(), log.now()), ([], 2))

    def test_falling_points(self):
        log = done(Log(9), ("put", "a", 1), ("put", "a", 2), ("put", "a", 3))
        self.assertEqual((log.sweep(2), log.sweep(1), log.sweep(3), log.sweep(0)), ([0], [], [1], []))


class MarksThatGo(unittest.TestCase):
    def times(self, hold, events):
        """For each mark the time behind the EVENT, or the word sweep, with which it went."""
        log, went = Log(hold), {}
        for event in events:
            before = places(log)
            told = done(log, event) if isinstance(event, tuple) else log.sweep(event)
            gone = [place for place in before if place not in places(log)]
            if isinstance(event, int):
                self.assertEqual(told, gone)
            went.update({place: "sweep" if isinstance(event, int) else log.now() for place in gone})
        return went

    def test_hold_0_goes_in_the_sweep(self):
        wait = ("wait",)
        self.assertEqual(self.times(0, [("drop", "a"), 0, wait, 1, wait]), {0: "sweep"})

    def test_hold_1_goes_as_the_next_event_ends(self):
        wait = ("wait",)
        self.assertEqual(self.times(1, [("drop", "a"), wait, 1, 1, wait, wait]), {0: 3})

    def test_greater_holds(self):
        wait = ("wait",)
        for hold in range(2, 8):
            self.assertEqual(self.times(hold, [("drop", "a"), wait, 1] + [wait] * 9), {0: 2 + hold})
            self.assertEqual(self.times(hold, [("drop", "a"), wait, 1] + [wait] * (hold - 1)), {})
        self.assertEqual(self.times(40, [("drop", "a"), 1] + [wait] * 40), {0: 41})

    def test_covered_counts_from_the_first_sweep(self):
        wait = ("wait",)
        self.assertEqual(self.times(3, [("drop", "a"), 1, wait, 1, wait, 1, wait, wait]), {0: 4})
        self.assertEqual(self.times(3, [("drop", "a"), ("drop", "b"), 1, wait, 2, wait, 0, wait, wait]), {0: 5, 1: 6})

    def test_what_is_not_covered_stays(self):
        wait = ("wait",)
        self.assertEqual(self.times(0, [("put", "b", 1), ("drop", "a"), 1, wait, wait]), {})

    def test_any_event_that_ends_lets_them_go(self):
        base = (("put", "b", 1), ("join", 0), ("save", 0), ("drop", "a"))
        for event in (("put", "a", 1), ("drop", "a"), ("join", 1), ("read", 0, 1), ("save", 0), ("load", 0, 0),
                      ("wait",)):
            log = done(Log(1), *base, 2)
            self.assertEqual(places(log), [0, 1])
            log.do(event)
            self.assertNotIn(1, places(log), event)

    def test_a_read_gets_the_mark_that_goes_as_it_ends(self):
        log = done(Log(1), ("put", "a", 1), ("join", 0), ("read", 0, 1), ("drop", "a"), 2)
        self.assertEqual((log.read(0, 2), log.table(0), log.there()), ([(1, "a", None)], [], []))

    def test_values_never_go_for_their_time(self):
        log = done(Log(0), ("put", "a", 1), 1, ("wait",), 1, ("wait",))
        self.assertEqual(log.there(), [(0, "a", 1)])

    def test_no_event_by_a_call_that_raises(self):
        log = done(Log(1), ("drop", "a"), 1)
        with self.assertRaises(NotJoined):
            log.read(0, 1)
        self.assertEqual(log.there(), [(0, "a", None)])


class Guards(unittest.TestCase):
    BASE = (("put", "a", 1), ("join", 0), ("read", 0, 1), ("drop", "a"))

    def test_a_reader_holds_the_mark_until_it_has_read_it(self):
        log = done(Log(0, (("reader", 0),)), *self.BASE)
        self.assertEqual((log.sweep(2), log.sweep(2)), ([0], []))
        done(log, ("wait",), ("join", 1), ("read", 1, 2))
        self.assertEqual(log.there(), [(1, "a", None)])
        self.assertEqual((log.read(0, 2), log.there(), log.table(0)), ([(1, "a", None)], [], []))

    def test_its_place_is_not_below(self):
        # The reader stands at the very place of the mark: it has not read it.
        log = done(Log(0, [["reader", 0]]), ("drop", "a"), ("join", 0), 1)
        self.assertEqual(places(log), [0])
        done(log, ("drop", "b"), ("read", 0, 1), 2)
        self.assertEqual(places(log), [1])

    def test_the_hold_counts_with_a_guard_too(self):
        log = done(Log(3, (("reader", 0),)), ("drop", "a"), ("join", 0), 1, ("read", 0, 1), ("wait",))
        self.assertEqual(places(log), [0])
        self.assertEqual(places(done(log, ("wait",))), [])

    def test_who_is_no_guard(self):
        log = done(Log(0, (("copy", 0), ("reader", 1))), *self.BASE)
        self.assertEqual((log.sweep(2), log.there()), ([0, 1], []))

    def test_a_reader_that_comes_late(self):
        log = done(Log(1, (("reader", 5),)), ("drop", "a"), ("drop", "b"), 1, ("join", 5), 2)
        # Mark 0 was to go as the join ended, when the reader guarded from place 0 on.
        self.assertEqual(places(log), [0, 1])
        log = done(Log(1, (("reader", 5),)), ("drop", "a"), ("drop", "b"), 1, ("wait",), 2, ("join", 5), ("wait",))
        self.assertEqual(places(log), [1])

    def test_a_reader_that_comes_by_a_load(self):
        events = (("drop", "a"), ("drop", "b"), ("join", 0), ("read", 0, 1), ("save", 0), 2)
        log = done(Log(1, (("reader", 5),)), *events, ("load", 5, 0))
        self.assertEqual(places(log), [1])
        self.assertEqual(places(done(log, ("read", 5, 2))), [])

    def test_a_copy_guards_from_its_save_to_the_end(self):
        log = done(Log(0, (("copy", 0),)), *self.BASE, ("save", 0), ("read", 0, 2), 2, ("wait",))
        self.assertEqual(places(log), [1])
        done(log, ("load", 0, 0), ("read", 0, 2), ("join", 0), ("wait",))
        self.assertEqual(places(log), [1])

    def test_a_copy_that_comes_late(self):
        events = (*self.BASE, ("drop", "b"), 2)
        self.assertEqual(places(done(Log(0, (("copy", 0),)), *events, ("save", 0))), [2])
        log = done(Log(1, (("copy", 0),)), *events, ("save", 0))
        self.assertEqual(places(log), [1, 2])
        log = done(Log(1, (("copy", 1),)), *events, ("save", 0), ("save", 0), 3, ("wait",))
        self.assertEqual(places(log), [2])

    def test_the_copy_guards_where_it_was_saved(self):
        log = done(Log(0, (("copy", 0),)), ("drop", "a"), ("drop", "b"), ("join", 0), ("read", 0, 1), ("save", 0), 2)
        self.assertEqual(places(log), [1])

    def test_all_of_several(self):
        log = done(Log(0, (("copy", 0), ("reader", 0), ("reader", 1))), ("drop", "a"), ("drop", "b"), ("drop", "c"),
                   ("join", 0), ("join", 1), ("read", 0, 2), ("save", 0), ("read", 0, 3))
        self.assertEqual((log.sweep(3), places(log)), ([], [0, 1, 2]))
        self.assertEqual(places(done(log, ("read", 1, 1))), [1, 2])
        self.assertEqual(places(done(log, ("read", 1, 3))), [2])

    def test_who_goes_back_guards_from_there(self):
        base = (("drop", "a"), ("join", 0), ("save", 0), ("read", 0, 1))
        for back in (("join", 0), ("load", 0, 0)):
            log = done(Log(0, (("reader", 0),)), *base, back)
            self.assertEqual((log.sweep(1), places(log)), ([], [0]))
        self.assertEqual(done(Log(0, (("reader", 0),)), *base).sweep(1), [0])

    def test_gone_marks_do_not_come_back(self):
        log = done(Log(0, (("reader", 0),)), ("drop", "a"), ("join", 0), ("read", 0, 1), 1, ("join", 0))
        self.assertEqual((log.there(), log.read(0, 1)), ([], []))

    def test_sweeps_take_what_is_needless_in_spite_of_guards(self):
        log = done(Log(40, (("copy", 0), ("reader", 0))), ("put", "a", 1), ("join", 0), ("save", 0), ("drop", "a"))
        self.assertEqual((log.sweep(2), places(log)), ([0], [1]))


class Wrong(unittest.TestCase):
    def test_an_earlier_copy_is_wrong_once_it_has_passed(self):
        log = done(Log(1), *BACK[:5], 2, ("read", 0, 2))
        self.assertEqual((log.there(), log.table(0), log.wrong(0)), ([], [], []))
        log.load(0, 0)
        self.assertEqual((log.seat(0), log.table(0), log.wrong(0)), (1, [("a", 1)], []))
        self.assertEqual((log.read(0, 2), log.table(0), log.wrong(0)), ([], [("a", 1)], ["a"]))

    def test_a_join_anew_is_never_wrong(self):
        log = done(Log(1), *LAG[:4], 2, ("wait",), ("read", 0, 2))
        self.assertEqual(log.wrong(0), ["a"])
        done(log, ("join", 0))
        self.assertEqual(log.wrong(0), [])
        done(log, ("read", 0, 2))
        self.assertEqual((log.table(0), log.wrong(0)), ([], []))

    def test_the_mark_must_be_last_and_below_the_place(self):
        log = done(Log(0), ("put", "a", 1), ("join", 0), ("read", 0, 1), ("drop", "a"), 2)
        self.assertEqual(log.wrong(0), [])
        log.put("c", 1)
        log.read(0, 2)
        self.assertEqual(log.wrong(0), ["a"])
        log.put("a", 7)
        self.assertEqual((log.wrong(0), log.table(0)), ([], [("a", 1)]))
        log.drop("a")
        self.assertEqual(log.wrong(0), [])
        log.sweep(5)
        log.read(0, 5)
        self.assertEqual((log.wrong(0), log.table(0)), (["a"], [("a", 1), ("c", 1)]))

    def test_several_keys_ascending(self):
        log = done(Log(0), ("put", "b", 1), ("put", "c", 1), ("put", "a", 1), ("join", 0), ("read", 0, 3))
        done(log, ("drop", "c"), ("drop", "a"), ("drop", "b"), ("put", "b", 2), 7, ("read", 0, 7))
        self.assertEqual((log.wrong(0), log.table(0)), (["a", "c"], [("a", 1), ("b", 2), ("c", 1)]))


class Queries(unittest.TestCase):
    def setUp(self):
        self.log = done(Log(0), ("put", "b", 1), ("put", "a", 2), ("join", 3), ("read", 3, 2), ("save", 3), ("join", 1),
                        ("drop", "b"), 3, ("put", "b", 4))

    def test_a_new_log(self):
        log = Log(7)
        told = (log.there(), log.now(), log.many(), log.readers(), log.copies(), log.last("a"), len(log), repr(log))
        self.assertEqual(told, ([], 0, 0, [], [], None, 0, "Log(0 entries, 0 gone)"))
        self.assertEqual((log.sweep(0), log), ([], Log(7)))

    def test_last_there_or_gone(self):
        self.assertEqual((self.log.last("a"), self.log.last("b"), self.log.last("c")), (1, 3, None))
        log = done(Log(0), ("drop", "x"), 1)
        self.assertEqual((log.there(), log.last("x"), log.last("")), ([], 0, None))

    def test_ascending(self):
        self.assertEqual(self.log.readers(), [1, 3])
        self.assertEqual(self.log.table(3), [("a", 2), ("b", 1)])
        self.assertEqual(self.log.there(), [(1, "a", 2), (3, "b", 4)])

    def test_readers_in_the_order_of_numbers(self):
        log = done(Log(0), ("join", 10), ("join", 9), ("save", 9), ("load", 2, 0))
        self.assertEqual(log.readers(), [2, 9, 10])

    def test_len_and_repr(self):
        self.assertEqual((len(self.log), repr(self.log)), (2, "Log(4 entries, 2 gone)"))
        self.assertEqual(repr(done(Log(3), ("put", "a", 1))), "Log(1 entries, 0 gone)")

    def test_names_and_positions(self):
        log = Log(hold=0, guards=[])
        told = (log.put(key="a", value=1), log.drop(key="b"), log.join(reader=2), log.read(reader=2, upto=1),
                log.save(reader=2), log.load(reader=3, copy=0), log.wait(), log.do(event=["read", 3, 2]),
                log.sweep(point=2))
        self.assertEqual(told, (0, 1, None, [(0, "a", 1)], 0, None, None, [(1, "b", None)], [1]))
        self.assertEqual((log.seat(reader=3), log.table(reader=3), log.last(key="b"), log.wrong(reader=3)),
                         (2, [("a", 1)], 1, []))

    def test_told_lists_are_the_callers(self):
        twin = self.log.twin()
        for tell in (self.log.there, self.log.readers, self.log.copies, lambda: self.log.table(3),
                     lambda: self.log.wrong(3), lambda: self.log.read(3, 4), lambda: self.log.sweep(4)):
            told = tell()
            self.assertIs(told.__class__, list)
            told.append("more")
            told.clear()
        twin.read(3, 4)
        twin.sweep(4)
        self.assertEqual(self.log, twin)

    def test_queries_change_nothing(self):
        twin = self.log.twin()
        for log in (self.log, self.log):
            log.there(), log.now(), log.many(), log.seat(3), log.table(3), log.readers(), log.copies()
            log.last("a"), log.wrong(3), log.twin(), len(log), repr(log), log == twin
        self.assertEqual(self.log, twin)

    def test_no_tuples_become_lists(self):
        log = done(Log(0, [["copy", 0]]), ["put", "a", 1], ["join", 0], ["read", 0, 1], ["save", 0])
        self.assertEqual(log.copies(), [(1, (("a", 1),))])
        self.assertEqual(log.there(), [(0, "a", 1)])

    def test_arguments_are_copied_and_left_alone(self):
        guards = [["reader", 0]]
        log = Log(0, guards)
        self.assertEqual(guards, [["reader", 0]])
        guards[0][1] = 5
        guards.clear()
        event = ["drop", "a"]
        log.do(event)
        self.assertEqual(event, ["drop", "a"])
        log.join(0)
        self.assertEqual((log.sweep(1), places(log)), ([], [0]))


class Errors(unittest.TestCase):
    def fails(self, log, error, field, wanted, call, *arguments):
        """The call raises this error, with this attribute, and changes nothing."""
        twin, kept = log.twin(), copy.deepcopy(vars(log))
        with self.assertRaises(error) as caught:
            call(*arguments)
        self.assertIs(caught.exception.__class__, error)
        self.assertEqual(getattr(caught.exception, field), wanted)
        self.assertEqual(log, twin)
        self.assertEqual(vars(log), kept)

    def setUp(self):
        self.log = done(Log(1, (("reader", 0),)), ("put", "a", 1), ("join", 0), ("read", 0, 1), ("drop", "a"), 2)

    def test_who_never_joined(self):
        log = self.log
        for call in (log.save, log.seat, log.table, log.wrong):
            for reader in (1, 99, -1):
                self.fails(log, NotJoined, "reader", reader, call, reader)
        self.fails(log, NotJoined, "reader", 1, log.read, 1, 2)

    def test_bad_places_of_reads(self):
        for upto in (1, 0, -1, 3, 100):
            self.fails(self.log, BadPlace, "place", upto, self.log.read, 0, upto)
        self.log.read(0, 2)
        self.fails(self.log, BadPlace, "place", 2, self.log.read, 0, 2)

    def test_not_joined_ahead_of_a_bad_place(self):
        for upto in (-1, 0, 3):
            self.fails(self.log, NotJoined, "reader", 4, self.log.read, 4, upto)

    def test_bad_points_of_sweeps(self):
        for point in (-1, 3, 99):
            self.fails(self.log, BadPlace, "place", point, self.log.sweep, point)
        self.fails(Log(0), BadPlace, "place", 1, Log(0).sweep, 1)

    def test_no_copy(self):
        log = self.log
        self.fails(log, NoCopy, "copy", 0, log.load, 0, 0)
        log.save(0)
        for number in (1, -1, 7):
            self.fails(log, NoCopy, "copy", number, log.load, 0, number)
            self.fails(log, NoCopy, "copy", number, log.load, 8, number)
        self.assertEqual(log.readers(), [0])

    def test_by_names_and_by_do(self):
        log = self.log
        self.fails(log, NotJoined, "reader", 2, lambda: log.read(upto=9, reader=2))
        self.fails(log, BadPlace, "place", 9, lambda: log.do(["read", 0, 9]))
        self.fails(log, NotJoined, "reader", 2, lambda: log.do(("save", 2)))
        self.fails(log, NoCopy, "copy", 3, lambda: log.do(("load", 0, 3)))

    def test_it_goes_on_behind_an_error(self):
        with self.assertRaises(BadPlace):
            self.log.read(0, 5)
        self.assertEqual((self.log.read(0, 2), self.log.now(), self.log.there()), ([(1, "a", None)], 5, []))
