"""[6]: who has read what, and when, beside a slow reading of the TIMETABLE."""

import unittest

from missedmarks.data import entries, guards_of, readers_of
from missedmarks.errors import NotJoined
from missedmarks.log import run
from missedmarks.paths import next_of, pairs, places_at, times_of
from tests.plain_log import PlainLog
from tests.samples import BACK, COPIES, CROSS, LAG, lagging_timetable, random_timetable


def plain_log(timetable):
    plain = PlainLog(0)
    for event in timetable:
        plain.do(event)
    return plain


def slow_time(plain, reader, place, moment):
    """When the reader came by this place, which it has read ahead of this moment: by looking back."""
    at = plain.last_of(reader, moment)
    event = plain.done[at]
    if event[0] == "load":
        save = plain.saves(at)[event[2]]
        return slow_time(plain, plain.done[save][1], place, save)
    return at if plain.seat(reader, at) <= place else slow_time(plain, reader, place, at)


def slow_times(timetable, reader):
    plain = plain_log(timetable)
    return [slow_time(plain, reader, place, plain.end()) for place in range(plain.seat(reader, plain.end()))]


def slow_places(timetable):
    plain, rows = plain_log(timetable), []
    for moment in range(len(timetable) + 1):
        seats = [(guard, plain.guard_seat(guard, moment)) for guard in guards_of(timetable[:moment])]
        rows.append(sorted((guard, seat) for guard, seat in seats if seat is not None))
    return rows


SAMPLES = [(), LAG, BACK, CROSS, COPIES] + [random_timetable(seed, 16, "abcd", 4) for seed in range(60)]
SAMPLES += [lagging_timetable(seed, 16, "abcd", 4) for seed in range(60)]


class Examples(unittest.TestCase):
    def test_of_the_document(self):
        self.assertEqual(
            (times_of(LAG, 0), places_at(LAG)[4], next_of(LAG, 0), pairs(LAG)),
            ([2, 5, 5], [(("reader", 0), 1)], 1, [(0, "a")]),
        )
        self.assertEqual(pairs(CROSS), [(0, "a"), (1, "a"), (1, "b")])


class Times(unittest.TestCase):
    def test_beside_a_slow_reading(self):
        for timetable in SAMPLES:
            for reader in readers_of(timetable):
                with self.subTest(timetable=timetable, reader=reader):
                    self.assertEqual(times_of(timetable, reader), slow_times(timetable, reader))

    def test_they_never_fall(self):
        for timetable in SAMPLES:
            for reader in readers_of(timetable):
                times = times_of(timetable, reader)
                self.assertEqual(times, sorted(times))
                self.assertEqual(len(times), run(timetable, 0).seat(reader))

    def test_several_steps(self):
        puts = (("put", "a", 1), ("put", "b", 1), ("drop", "a"), ("join", 4))
        timetable = (*puts, ("read", 4, 1), ("wait",), ("read", 4, 2), ("put", "a", 3), ("read", 4, 4))
        self.assertEqual(times_of(timetable, 4), [4, 6, 8, 8])

    def test_a_join_anew(self):
        joined = BACK[:3] + (("join", 0),)
        self.assertEqual(times_of(joined, 0), [])
        self.assertEqual(times_of(joined + (("wait",), ("read", 0, 1)), 0), [5])

    def test_a_load_of_an_earlier_copy(self):
        self.assertEqual(times_of(BACK[:6], 0), [2, 5])
        self.assertEqual(times_of(BACK[:7], 0), [2])
        self.assertEqual(times_of(BACK, 0), [2, 7])

    def test_copies_of_who_loaded_a_copy(self):
        self.assertEqual([times_of(COPIES, reader) for reader in (0, 1, 2)], [[13], [2, 7], [2, 7, 12]])

    def test_a_copy_stays_as_it_was_at_the_save(self):
        timetable = BACK[:6] + (("load", 1, 0), ("join", 0), ("load", 2, 0), ("read", 2, 2), ("load", 3, 0))
        self.assertEqual([times_of(timetable, reader) for reader in range(4)], [[], [2], [2, 9], [2]])

    def test_who_has_read_nothing(self):
        self.assertEqual(times_of((("join", 0), ("save", 0), ("load", 9, 0)), 9), [])

    def test_who_never_joins_or_loads(self):
        for timetable, reader in ((LAG, 1), ((), 0), (COPIES, 3), (LAG[:1], 0), (BACK, -1), ((("put", "a", 0),), 0)):
            with self.assertRaises(NotJoined) as caught:
                times_of(timetable, reader)
            self.assertIs(caught.exception.__class__, NotJoined)
            self.assertEqual(caught.exception.reader, reader)


class Places(unittest.TestCase):
    def test_beside_a_slow_reading(self):
        for timetable in SAMPLES:
            with self.subTest(timetable=timetable):
                self.assertEqual(places_at(timetable), slow_places(timetable))

    def test_guards_as_they_come(self):
        copy, reader = ("copy", 0), ("reader", 0)
        here = [[], [], [(reader, 0)], [(reader, 1)], [(copy, 1), (reader, 1)]]
        behind = [[(copy, 1), (reader, place)] for place in (1, 2, 1, 2)]
        self.assertEqual(places_at(BACK), here + behind)

    def test_a_join_anew_leads_back_to_the_start(self):
        rows = places_at(BACK[:3] + (("join", 0),))
        self.assertEqual(rows[3:], [[(("reader", 0), 1)], [(("reader", 0), 0)]])

    def test_copies_by_number_ahead_of_readers(self):
        timetable = (("join", 10), ("join", 9)) + (("save", 9),) * 11
        guards = [guard for guard, _ in places_at(timetable)[-1]]
        self.assertEqual(guards, [("copy", copy) for copy in range(11)] + [("reader", 9), ("reader", 10)])

    def test_no_events(self):
        self.assertEqual(places_at(()), [[]])


class Nexts(unittest.TestCase):
    def test_beside_the_entries(self):
        for timetable in SAMPLES:
            rows = entries(timetable)
            for place, (_, key, _) in enumerate(rows):
                later = [other for other in range(place + 1, len(rows)) if rows[other][1] == key]
                self.assertEqual(next_of(timetable, place), later[0] if later else None)

    def test_of_each_place(self):
        puts = (("put", "a", 1), ("put", "b", 1), ("wait",), ("drop", "a"), ("put", "ab", 1), ("put", "a", 1))
        self.assertEqual([next_of(puts, place) for place in range(5)], [2, None, 4, None, None])


class Pairs(unittest.TestCase):
    def test_beside_the_entries_and_the_seats(self):
        for timetable in SAMPLES:
            log, wanted = run(timetable, 0), []
            for reader in readers_of(timetable):
                for key in ("a", "b", "c", "d"):
                    place = log.last(key)
                    if place is not None and place < log.seat(reader) and entries(timetable)[place][2] is None:
                        wanted.append((reader, key))
            self.assertEqual(pairs(timetable), wanted)

    def test_at_the_place_and_beyond_it(self):
        rows = (("put", "a", 1), ("drop", "a"), ("put", "b", 1), ("join", 0))
        self.assertEqual(pairs(rows), [])
        self.assertEqual(pairs(rows + (("read", 0, 1),)), [])
        self.assertEqual(pairs(rows + (("read", 0, 2),)), [(0, "a")])
        self.assertEqual(pairs(rows + (("read", 0, 3),)), [(0, "a")])

    def test_a_value_is_the_last_entry(self):
        rows = (("drop", "a"), ("put", "a", 1), ("join", 0), ("read", 0, 2))
        self.assertEqual(pairs(rows), [])
        self.assertEqual(pairs(rows + (("drop", "a"),)), [])
        self.assertEqual(pairs(rows + (("drop", "a"), ("read", 0, 3))), [(0, "a")])

    def test_a_mark_without_a_value_ahead_of_it(self):
        self.assertEqual(pairs((("drop", "a"), ("join", 0), ("read", 0, 1))), [(0, "a")])

    def test_who_went_back_is_where_it_is_in_the_end(self):
        self.assertEqual(pairs(BACK[:6]), [(0, "a")])
        self.assertEqual(pairs(BACK[:7]), [])
        self.assertEqual(pairs(BACK[:6] + (("join", 0),)), [])

    def test_they_ascend(self):
        drops = (("drop", "b"), ("drop", "aa"), ("drop", "a"))
        rows = drops + (("join", 10), ("read", 10, 3), ("join", 9), ("read", 9, 2))
        self.assertEqual(pairs(rows), [(9, "aa"), (9, "b"), (10, "a"), (10, "aa"), (10, "b")])
