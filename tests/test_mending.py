"""[12]: mending: the document's examples, chosen cases, things of every kind, errors."""

import itertools
import random
import unittest

from missedmarks.data import guards_of, is_guards, is_timetable, readers_of
from missedmarks.errors import NoCopy
from missedmarks.mending import first_danger, harms, is_mend, mend, safe_copies, usable_for, with_reads
from missedmarks.paths import pairs
from missedmarks.wrongs import may_pairs
from tests.samples import BACK, COPIES, CROSS, LAG, ODD_THINGS, SLOW, lagging_timetable, listed

EARLY = (("join", 0), ("put", "a", 1), ("wait",), ("drop", "a"), ("wait",), ("read", 0, 2))
KEPT = (("put", "a", 1), ("join", 0), ("read", 0, 1), ("save", 0), ("drop", "a"), ("read", 0, 2))
COPY, READER = (("copy", 0),), (("reader", 0),)
# Two readers who lag, and two waits in which each of them could read.
PAIR = (
    ("put", "a", 1), ("join", 0), ("join", 1), ("read", 0, 1), ("read", 1, 1), ("drop", "a"), ("wait",), ("wait",),
    ("read", 1, 2), ("read", 0, 2),
)


def slow_reads(timetable, reads):
    """What with_reads tells, done one by one."""
    added, seats, saved, total, events = dict(reads), {}, [], 0, []
    for time, event in enumerate(timetable):
        word, *rest = event
        if time in added:
            word, rest = "read", [added[time], total]
        if word == "read" and seats[rest[0]] >= rest[1]:
            word, rest = "wait", []
        if word == "join":
            seats[rest[0]] = 0
        if word == "read":
            seats[rest[0]] = rest[1]
        if word == "save":
            saved.append(seats[rest[0]])
        if word == "load":
            seats[rest[0]] = saved[rest[1]]
        total += word in ("put", "drop")
        events.append((word, *rest))
    return tuple(events)


def all_reads(timetable):
    """All READS of the TIMETABLE, by their number, then ascending."""
    lines, joined = [], []
    for time, event in enumerate(timetable):
        if event[0] == "wait":
            lines.append([(time, reader) for reader in sorted(set(joined))])
        if event[0] in ("join", "load"):
            joined.append(event[1])
    rows = [tuple(pair for pair in row if pair) for row in itertools.product(*[[None, *line] for line in lines])]
    return sorted(rows, key=lambda reads: (len(reads), reads))


def waiting_timetable(seed, length=14, readers=3):
    """A lagging TIMETABLE in which some EVENTs are waits."""
    rng = random.Random(seed)
    timetable = list(lagging_timetable(seed, length - 2, rng.choice(("a", "ab")), readers, 6))
    waits = sum(event[0] == "wait" for event in timetable)
    while waits < 2:
        timetable.insert(rng.randint(4, len(timetable)), ("wait",))
        waits += 1
    return tuple(timetable)


class Examples(unittest.TestCase):
    def test_slow(self):
        self.assertEqual(
            (with_reads(SLOW, [(4, 0)])[4:], mend(SLOW, 1), mend(SLOW, 0), mend(SLOW, 3), first_danger(SLOW, 1)),
            ((("read", 0, 2), ("put", "b", 2), ("read", 0, 3)), ((4, 0),), None, (), 7),
        )

    def test_early(self):
        self.assertEqual(
            (harms(EARLY, 1), is_mend(EARLY, 1, ((2, 0),)), is_mend(EARLY, 1, ((2, 0), (4, 0))),
             with_reads(EARLY, [(4, 0)])[4:]),
            ([(2, 0)], False, True, (("read", 0, 2), ("wait",))),
        )

    def test_kept(self):
        self.assertEqual(
            (safe_copies(KEPT, 2), safe_copies(KEPT, 3), usable_for(KEPT, 4, 0), usable_for(KEPT, 2, 0),
             usable_for(KEPT, 2, 0, COPY)),
            ([], [0], 1, -1, None),
        )


class WithReads(unittest.TestCase):
    def test_a_read_of_all_that_there_is(self):
        timetable = (("put", "a", 1), ("join", 0), ("wait",), ("put", "b", 1), ("wait",), ("read", 0, 1), ("wait",))
        self.assertEqual(with_reads(timetable, [(2, 0)])[2], ("read", 0, 1))
        self.assertEqual(with_reads(timetable, [(2, 0)])[5], ("wait",))
        self.assertEqual(with_reads(timetable, [(4, 0)])[4:6], (("read", 0, 2), ("wait",)))
        self.assertEqual(with_reads(timetable, [(2, 0), (4, 0), (6, 0)])[2:], (
            ("read", 0, 1), ("put", "b", 1), ("read", 0, 2), ("wait",), ("wait",),
        ))
        self.assertEqual(with_reads(timetable, ()), timetable)

    def test_joins_and_loads_go_back(self):
        timetable = (
            ("put", "a", 1), ("join", 0), ("wait",), ("save", 0), ("drop", "a"), ("join", 0), ("read", 0, 1),
            ("load", 1, 0), ("read", 1, 1), ("read", 1, 2), ("wait",),
        )
        self.assertEqual(with_reads(timetable, [(2, 0), (10, 1)])[6:], (
            ("read", 0, 1), ("load", 1, 0), ("wait",), ("read", 1, 2), ("wait",),
        ))
        self.assertEqual(with_reads(timetable, [(10, 0)])[-1], ("read", 0, 2))

    def test_nothing_to_read(self):
        self.assertEqual(with_reads((("join", 3), ("wait",)), [(1, 3)]), (("join", 3), ("wait",)))

    def test_beside_a_slow_doing(self):
        changed = 0
        for seed in range(200):
            timetable = waiting_timetable(seed)
            for reads in random.Random(seed).choices(all_reads(timetable), k=6):
                told = with_reads(timetable, reads)
                self.assertEqual(told, slow_reads(timetable, reads))
                self.assertIs(is_timetable(told), True)
                self.assertEqual((len(told), readers_of(told)), (len(timetable), readers_of(timetable)))
                self.assertEqual(guards_of(told), guards_of(timetable))
                changed += ("read", "wait") in [(event[0], other[0]) for event, other in zip(timetable, told)]
        self.assertGreater(changed, 100)


class Mend(unittest.TestCase):
    def test_two_who_lag(self):
        # The mark can be covered at 6: with hold 2 it goes at 8, ahead of both reads; with hold 3 at 9, ahead of one.
        self.assertEqual([mend(PAIR, hold) for hold in range(5)], [None, None, ((6, 0), (7, 1)), ((6, 0),), ()])
        # Reader 1 guards up to 8; if it reads sooner itself, reader 0 must have been there.
        self.assertEqual([mend(PAIR, hold, (("reader", 1),)) for hold in range(2)], [((6, 0),), ((6, 0),)])
        self.assertEqual([mend(PAIR, hold, READER) for hold in range(2)], [(), ()])
        for hold in range(5):
            reads = [some for some in all_reads(PAIR) if not may_pairs(slow_reads(PAIR, some), hold)]
            self.assertEqual(mend(PAIR, hold), reads[0] if reads else None)

    def test_is_mend(self):
        thing = ((6, 0), (7, 1))
        self.assertIs(is_mend(PAIR, 2, thing), True)
        for other in (
            ((7, 1), (6, 0)), ((6, 0), (6, 1)), ((6, 0), (6, 0)), ((6, 0), (7, 2)), ((6, 0), (8, 1)), ((5, 0), (7, 1)),
            ((6, 0),), ((7, 1),), (), ((6, 0), (7, -1)), ((6, 0), (10, 1)), ((6, 0), (7, 1), (7, 1)), ((-4, 0), (7, 1)),
            [(6, 0), (7, 1)], ([6, 0], (7, 1)), [[6, 0], [7, 1]], ((6, False), (7, True)), ((6, 0), (7, True)),
            ((6, 0, 0), (7, 1)), ((6,), (7, 1)), (6, 0), ((6, "0"), (7, 1)), ((6, None), (7, 1)), ("60", "71"),
        ):
            self.assertIs(is_mend(PAIR, 2, other), False, other)
        for other in ODD_THINGS:
            self.assertIs(is_mend(PAIR, 2, other), False)
            self.assertIs(is_mend(PAIR, 4, other), other == () and other.__class__ is tuple)
        self.assertIs(is_mend(PAIR, 1, thing), False)
        self.assertIs(is_mend(PAIR, 4, ()), True)

    def test_a_reader_that_has_not_come_yet(self):
        timetable = (("wait",), ("join", 1), ("wait",), ("save", 1), ("load", 0, 0), ("wait",))
        self.assertIs(is_mend(timetable, 0, ()), True)
        for thing, right in (
            (((0, 1),), False), (((2, 1),), True), (((2, 0),), False), (((5, 0),), True), (((2, 1), (5, 0)), True),
            (((0, 0),), False), (((1, 1),), False), (((5, 2),), False), (((2, 1), (5, 1)), True), (((6, 1),), False),
        ):
            self.assertIs(is_mend(timetable, 0, thing), right)

    def test_keys_that_are_called_as_events(self):
        timetable = tuple((*event[:1], "wait", *event[2:]) if event[0] in ("put", "drop") else event for event in PAIR)
        self.assertEqual([mend(timetable, hold) for hold in range(5)], [mend(PAIR, hold) for hold in range(5)])
        self.assertIs(is_mend((("drop", "wait"), ("join", 0), ("drop", "wait")), 0, ((2, 0),)), False)

    def test_no_waits(self):
        for timetable in (LAG, BACK, CROSS):
            self.assertIsNone(mend(timetable, 0))
            self.assertEqual((mend(timetable, 9), harms(timetable, 0)), ((), []))
        self.assertEqual((mend((), 0), harms((), 0), first_danger((), 0), safe_copies((), 0)), ((), [], None, []))


class Harms(unittest.TestCase):
    def test_a_pair_that_was_none(self):
        # Without the read at 2 the reader is not beyond the mark in the end.
        timetable = (("join", 0), ("put", "a", 1), ("read", 0, 1), ("drop", "a"), ("wait",), ("put", "a", 2))
        self.assertEqual((pairs(timetable), harms(timetable, 0)), ([], []))
        timetable = (("join", 0), ("put", "a", 1), ("read", 0, 1), ("drop", "a"), ("wait",), ("wait",))
        self.assertEqual((pairs(timetable), harms(timetable, 0), harms(timetable, 1)), ([], [(4, 0), (5, 0)], [(5, 0)]))
        self.assertEqual(harms(timetable, 0, READER), [])


class Danger(unittest.TestCase):
    def test_a_part(self):
        self.assertEqual([first_danger(LAG, hold) for hold in range(3)], [6, 6, None])
        self.assertEqual(first_danger(LAG + (("put", "a", 1),), 1), 6)
        self.assertEqual(first_danger(LAG + (("put", "a", 1), ("read", 0, 4)), 1), 6)
        self.assertEqual(first_danger(LAG[:5], 0), None)
        self.assertEqual(first_danger(BACK, 2), 8)
        self.assertEqual([first_danger(BACK, hold) for hold in range(4)], [6, 8, 8, None])
        self.assertEqual([first_danger(BACK, hold, READER) for hold in range(3)], [8, 8, None])

    def test_a_guard_guards_from_its_coming_on(self):
        late = LAG + (("save", 0), ("join", 5))
        self.assertEqual(first_danger(late, 1, COPY), 6)
        self.assertEqual(first_danger(late, 1, (("reader", 5),)), 6)
        self.assertIsNone(first_danger(late, 1, (("reader", 0),)))
        self.assertEqual(first_danger(LAG[:3] + (("save", 0),) + LAG[3:], 1, COPY), None)


class Copies(unittest.TestCase):
    def test_no_copy(self):
        for timetable, copy in ((KEPT, 1), (KEPT, -1), (KEPT, 99), (LAG, 0), ((), 0), (COPIES, 2)):
            for hold in (0, 3):
                with self.assertRaises(NoCopy) as caught:
                    usable_for(timetable, hold, copy)
                self.assertEqual(vars(caught.exception), {"copy": copy})

    def test_holds(self):
        self.assertEqual([usable_for(KEPT, hold, 0) for hold in range(9)], [-1, -1, -1, 0, 1, 2, 3, 4, 5])
        self.assertEqual([usable_for(KEPT, hold, 0, COPY) for hold in range(3)], [None] * 3)
        self.assertEqual([usable_for(KEPT, hold, 0, READER) for hold in range(4)], [-1, -1, -1, 0])
        self.assertEqual([safe_copies(KEPT, hold) for hold in range(5)], [[], [], [], [0], [0]])

    def test_the_new_reader_is_no_guard(self):
        two = KEPT + (("join", 1),)
        for guards in (READER, (("reader", 0), ("reader", 1)), (("reader", 1),)):
            # Reader 1 comes at 7 and goes nowhere: a mark that is still there then stays.
            wanted = [-1, -1] + ([None] * 3 if ("reader", 1) in guards else [-1, -1, 0])
            self.assertEqual([usable_for(two, hold, 0, guards) for hold in range(5)], wanted)
            safe = [safe_copies(two, hold, guards) for hold in range(5)]
            self.assertEqual(safe, [[] if told == -1 else [0] for told in wanted])

    def test_nothing_to_miss_or_to_read(self):
        self.assertEqual([usable_for(KEPT[:4], hold, 0) for hold in (0, 3)], [None, None])
        self.assertEqual(usable_for(KEPT + (("put", "a", 2),), 0, 0), None)
        # The copy itself is wrong, though there is nothing more to read.
        wrong = KEPT[:4] + (("drop", "a"), ("put", "b", 1), ("read", 0, 3), ("save", 0))
        self.assertEqual([usable_for(wrong, hold, 1) for hold in range(4)], [-1, -1, None, None])
        self.assertEqual([safe_copies(wrong, hold) for hold in range(6)], [[], [], [1], [1], [1], [0, 1]])

    def test_guards_that_are_told(self):
        for seed in range(60):
            timetable = lagging_timetable(seed, 14)
            rng = random.Random(seed)
            guards = tuple(guard for guard in guards_of(timetable) if rng.random() < 0.4)
            self.assertTrue(is_guards(timetable, guards))
            for hold in (0, 1, 2):
                for copy in range(sum(event[0] == "save" for event in timetable)):
                    less, more = usable_for(timetable, hold, copy), usable_for(timetable, hold, copy, guards)
                    self.assertTrue(more is None or (less is not None and less <= more))
                    self.assertIs(copy in safe_copies(timetable, hold, guards), more != -1)
