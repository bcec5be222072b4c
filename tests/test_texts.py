"""[13]: texts, there and back; lines that are not so written, or whose EVENT cannot come there."""

import random
import unittest

from missedmarks.data import guards_of, is_guards, is_sweeps, is_timetable
from missedmarks.errors import BadText
from missedmarks.texts import guards_in, guards_text, sweeps_in, sweeps_text, timetable_in, timetable_text
from tests.samples import BACK, COPIES, CROSS, LAG, SLOW, lagging_timetable, random_sweeps, random_timetable

TIMETABLES = [(), LAG, SLOW, BACK, CROSS, COPIES] + [lagging_timetable(seed, 16, "abcd", 4) for seed in range(40)]
TIMETABLES += [random_timetable(seed, 12) for seed in range(40)]
# Lines that are no EVENT, wherever they stand.
BAD_LINES = [
    "", " ", "none", "-", "put", "put a", "put a 1 2", "put  a 1", " put a 1", "put a 1 ", "put a\t1", "Put a 1",
    "PUT a 1",
    "put A 1", "put a1 1", "put abcdefghi 1", "put  1", "put a b", "put a +1", "put a 01", "put a -01", "put a 00",
    "put a -0", "put a --1", "put a 1.0", "put a 1e3", "put a 1234567890", "put a -1234567890", "put a 0x1", "put a -",
    "put a 1_0", "put a None", "put a True", "put 1 a", "drop", "drop a 1", "drop A", "drop a ", "drop 1", "drop ab-c",
    "join", "join a", "join -1", "join 00", "join 01", "join 0 0", "join +0", "join 1234567890", "join  0", "Join 0",
    "read 0", "read 0 1 2", "read 0 -1", "read a 1", "read 0 01", "read 0  1", "read 0,1", "save", "save -1",
    "save 0 0",
    "load 0", "load 0 0 0", "load 0 -1", "load 0 00", "wait ", " wait", "wait 1", "waits", "Wait", "w", "put a 1\r",
    "sweep 1", "run 0:0", "hold 1", "guards -", "# wait", "wait;", "put a \u0661", "join \u00b2", "put \u00e4 1",
    "wait\x00",
    "put a \u22121", "join 0\x0b", "wait\u2028wait", "wait\x85wait", "wait\x0cwait", "put a 1,000", "put a\u00a01",
]


class Examples(unittest.TestCase):
    def test_of_the_document(self):
        self.assertEqual(
            (timetable_text(SLOW[:4]), sweeps_text(((4, 2), (5, 2))), guards_text((("copy", 0), ("reader", 1))),
             timetable_in("none")),
            ("put a 1\njoin 0\nread 0 1\ndrop a", "4:2 5:2", "copy 0, reader 1", ()),
        )
        self.assertEqual((sweeps_in(SLOW, "4:2 5:2"), guards_in(SLOW, "-")), (((4, 2), (5, 2)), ()))
        with self.assertRaises(BadText) as caught:
            timetable_in("put a 1\njoin 0\nread 0 2")
        self.assertEqual(vars(caught.exception), {"line": 2})


class ThereAndBack(unittest.TestCase):
    def test_timetables(self):
        for timetable in TIMETABLES:
            told = timetable_in(timetable_text(timetable))
            self.assertEqual(told, timetable)
            self.assertIs(is_timetable(told), True)

    def test_values(self):
        for value in (0, 1, -1, 9, 10, -10, 999999999, -999999999, 100000000, -123456789):
            self.assertEqual(timetable_text((("put", "abcdefgh", value),)), f"put abcdefgh {value}")
            self.assertEqual(timetable_in(f"put abcdefgh {value}"), (("put", "abcdefgh", value),))

    def test_every_kind_of_event(self):
        text = "put a -3\njoin 7\nread 7 1\nsave 7\ndrop a\nload 999999999 0\nwait"
        wanted = (
            ("put", "a", -3), ("join", 7), ("read", 7, 1), ("save", 7), ("drop", "a"), ("load", 999999999, 0),
            ("wait",),
        )
        self.assertEqual((timetable_text(wanted), timetable_in(text)), (text, wanted))

    def test_sweeps(self):
        for seed, timetable in enumerate(TIMETABLES):
            for count in (0, 1, 2, 9):
                sweeps = random_sweeps(seed, timetable, count)
                text = sweeps_text(sweeps)
                self.assertEqual(text, " ".join(f"{time}:{point}" for time, point in sweeps) if sweeps else "-")
                self.assertEqual(sweeps_in(timetable, text), sweeps)

    def test_guards(self):
        for seed, timetable in enumerate(TIMETABLES):
            rng = random.Random(seed)
            for guards in ((), guards_of(timetable), [guard for guard in guards_of(timetable) if rng.random() < 0.5]):
                text = guards_text(guards)
                self.assertEqual(text, ", ".join(f"{kind} {number}" for kind, number in guards) if guards else "-")
                self.assertEqual(guards_in(timetable, text), tuple(guards))


class BadTimetables(unittest.TestCase):
    def fails(self, text, line):
        with self.assertRaises(BadText) as caught:
            timetable_in(text)
        self.assertEqual(vars(caught.exception), {"line": line}, repr(text))

    def test_lines_that_are_no_events(self):
        for bad in BAD_LINES:
            if bad != "none":
                self.fails(bad, 0)
            self.fails("put a 1\njoin 0\n" + bad, 2)
            self.fails("put a 1\n" + bad + "\nwait\n" + bad, 1)

    def test_empty_lines(self):
        for text, line in (("", 0), ("\n", 0), ("wait\n", 1), ("\nwait", 0), ("wait\n\nwait", 1), ("none\n", 0)):
            self.fails(text, line)

    def test_events_that_cannot_come_there(self):
        for text, line in (
            ("read 0 1", 0), ("put a 1\nread 0 1", 1), ("join 0\nread 0 1", 1), ("put a 1\njoin 0\nread 0 0", 2),
            ("put a 1\njoin 0\nread 0 1\nread 0 1", 3), ("put a 1\njoin 0\nread 1 1", 2), ("save 0", 0),
            ("join 0\nsave 1", 1), ("load 0 0", 0), ("join 0\nsave 0\nload 1 1", 2),
            ("join 0\nsave 0\nload 1 1\nbad", 2),
            ("wait\nread 0 1\nno", 1), ("wait\nno\nread 0 1", 1), ("join 0\nload 0 0\nsave 0", 1),
        ):
            self.fails(text, line)

    def test_the_first_line_that_is_bad(self):
        for seed, timetable in enumerate(TIMETABLES):
            rng = random.Random(seed)
            lines = timetable_text(timetable).split("\n")
            at = rng.randrange(len(lines))
            lines[at:] = [rng.choice(BAD_LINES) + "x"] + rng.sample(BAD_LINES + lines, 3)
            self.fails("\n".join(lines), at)


class BadSweepsAndGuards(unittest.TestCase):
    def fails(self, call, timetable, text):
        with self.assertRaises(BadText) as caught:
            call(timetable, text)
        self.assertEqual(vars(caught.exception), {"line": 0}, repr(text))

    def test_sweeps_that_are_not_so_written(self):
        for text in (
            "", " ", "none", "--", "- ", "4:2 ", " 4:2", "4:2  5:2", "4:2,5:2", "4:2, 5:2", "4:2\n5:2", "4: 2", "4 :2",
            "4-2", "4", "4:", ":2", "4:2:1", "4:02", "04:2", "+4:2", "4:-1", "-4:2", "4:1234567890", "a:b", "4:2 -",
            "- 4:2", "4.0:2", "()", "(4, 2)", "4:\u0662", "4:2\x0b", "4:2;5:2", "4:2\r", "4:00",
        ):
            self.fails(sweeps_in, SLOW, text)

    def test_what_is_no_sweeps_of_the_timetable(self):
        for text in ("4:3", "8:0", "5:2 4:2", "0:1", "7:4", "999999999:0", "0:999999999", "3:1 2:1"):
            self.fails(sweeps_in, SLOW, text)
        for text in ("0:0", "7:3", "4:2 4:0", "5:2 5:2 7:0"):
            self.assertIs(is_sweeps(SLOW, sweeps_in(SLOW, text)), True)
        self.fails(sweeps_in, (), "1:0")
        self.assertEqual(sweeps_in((), "0:0"), ((0, 0),))

    def test_guards_that_are_not_so_written(self):
        for text in (
            "", " ", "none", "--", "- ", "copy", "copy0", "copy  0", "copy 0 ", " copy 0", "copy 0,reader 0", "Copy 0",
            "copy 0,  reader 0", "copy 0 , reader 0", "copy 0 reader 0", "copy 0\nreader 0", "copy 00", "copy +0",
            "copy -0",
            "copy 0,", "copy 0, ", ", copy 0", "copy a", "reader", "reader 01", "reader 0 0", "writer 0", "copy 0, -",
            "0",
            "-, copy 0", "('copy', 0)", "copy:0", "copy \u0660", "copy 0; reader 0", "reader 0\r", "0 copy",
        ):
            self.fails(guards_in, BACK, text)

    def test_what_is_no_guards_of_the_timetable(self):
        for text in ("reader 0, copy 0", "copy 0, copy 0", "copy 1", "reader 1", "copy 0, reader 0, reader 1",
                     "reader 999999999", "copy 0, reader 0, reader 0"):
            self.fails(guards_in, BACK, text)
        for text in ("-", "copy 0", "reader 0", "copy 0, reader 0"):
            self.assertIs(is_guards(BACK, guards_in(BACK, text)), True)
        self.fails(guards_in, (), "reader 0")
        self.assertEqual(guards_in((), "-"), ())

    def test_numbers_ascend_as_numbers(self):
        timetable = (("join", 2), ("join", 10))
        self.assertEqual(guards_in(timetable, "reader 2, reader 10"), (("reader", 2), ("reader", 10)))
        self.fails(guards_in, timetable, "reader 10, reader 2")


class DrawnTexts(unittest.TestCase):
    def test_any_string(self):
        """What has a text is written so, and nothing else is."""
        signs = "putdropjoinreadsaveloadwaitcopyreader  \n::,-0123 ab"
        kept = [0, 0]
        for seed in range(4000):
            rng = random.Random(seed)
            bases = ("put a 1\njoin 0\nread 0 1", "4:2 5:2", "copy 0, reader 0", "", "none", "-", "wait\nwait")
            base = rng.choice(bases)
            text = list(base)
            for _ in range(rng.randrange(3)):
                at = rng.randint(0, len(text))
                text[at:at + rng.randrange(2)] = rng.choice(signs) * rng.randrange(2)
            text = "".join(text)
            for call, back in (
                (timetable_in, timetable_text),
                (lambda words: sweeps_in(SLOW, words), sweeps_text),
                (lambda words: guards_in(BACK, words), guards_text),
            ):
                try:
                    self.assertEqual(back(call(text)), text)
                    kept[0] += 1
                except BadText:
                    kept[1] += 1
        self.assertGreater(min(kept), 1000)
