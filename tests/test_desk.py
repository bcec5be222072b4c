"""[14]: the desk: every request, what is refused, and the lines that are bad."""

import random
import unittest

from missedmarks.atonce import most_at_once
from missedmarks.data import guards_of, is_sweeps, is_timetable
from missedmarks.desk import answers
from missedmarks.errors import BadLine, BadPlace, NoCopy, NotJoined
from missedmarks.guards import fewest_guards, least_hold
from missedmarks.log import run
from missedmarks.mending import first_danger, harms, mend, safe_copies, usable_for
from missedmarks.paths import pairs
from missedmarks.stairs import wrong_pairs
from missedmarks.texts import guards_text, sweeps_text, timetable_text
from missedmarks.wrongs import may_pairs, safe_hold
from tests.samples import BACK, COPIES, CROSS, IN_TURN, LAG, SLOW, lagging_timetable, random_sweeps
from tests.test_texts import BAD_LINES

REQUESTS = ("may", "most", "harms", "guards", "least", "mend", "copies", "danger")
# Lines that cannot stand where a hold, GUARDS, or a request must.
BAD_HOLDS = [
    "", "hold", "hold ", "hold  1", "hold 1 ", " hold 1", "Hold 1", "hold 01", "hold -1", "hold +1", "hold a",
    "hold 1 2", "hold 1.0", "hold 1234567890", "guards -", "hold none", "hold -", "hold: 1", "hold 1\r", "may",
]
BAD_GUARDS = [
    "", "guards", "guards ", "guards  -", "guards - ", " guards -", "guards none", "guards --", "guard -",
    "guards copy 0", "guards reader 1", "guards reader 0, reader 0", "guards reader 00", "guards reader",
    "guards reader 0,", "guards reader 0 ", "guards 0", "guards reader 0, copy 0", "Guards -", "hold 1", "may",
]
BAD_REQUESTS = [
    "may ", " may", "May", "may 0", "mays", "most 0", "harms -", "guards -", "guards copy 0", "least 0", "mend 1",
    "copies 0", "danger 1", "until", "until ", "until -1", "until 00", "until a", "until 0 0", "until 1234567890",
    "safe", "safe 0", "safe a 0", "safe 0 A", "safe 0 a b", "safe -1 a", "safe 0  a", "safe 0 abcdefghi", "safe 00 a",
    "run", "run ", "run  4:2", "run 4:2 ", "run 4:2  5:2", "run 4", "run 4:", "run :2", "run 4:-2", "run 04:2",
    "run --", "run - -", "run 4:2 -", "run 4:2, 5:2", "run a:b", "run 4:2:1", "run none", "hold 1", "ask", "undo",
]


def sheet(timetable, hold, guards, *requests):
    """The text of a sheet."""
    events = [timetable_text(timetable)] if timetable else []
    return "\n".join([*events, "", f"hold {hold}", f"guards {guards_text(guards)}", *requests])


def pairs_text(told):
    return " ".join(f"{one}:{other}" for one, other in told) or "-"


def plain_answers(timetable, hold, guards):
    """What the REQUESTS are answered, by the functions."""
    reads, count = mend(timetable, hold, guards), first_danger(timetable, hold, guards)
    return [
        pairs_text(may_pairs(timetable, hold, guards)), pairs_text(most_at_once(timetable, hold, guards)),
        pairs_text(harms(timetable, hold, guards)), guards_text(fewest_guards(timetable, hold)),
        str(least_hold(timetable, guards)), "impossible" if reads is None else pairs_text(reads),
        " ".join(map(str, safe_copies(timetable, hold, guards))) or "-", "never" if count is None else str(count),
    ]


class Examples(unittest.TestCase):
    def test_of_the_document(self):
        text = timetable_text(SLOW) + (
            "\n\nhold 1\nguards -\nmay\nmend\nrun 4:2\nrun 4:3\nread 0 3\nwait\ndanger\ncopies\nuntil 0\nsafe 0 a"
        )
        wanted = ["0:a", "4:0", "0:a", "refused BadPlace", "refused BadPlace", "done", "7", "-", "refused NoCopy", "3"]
        self.assertEqual(answers(text), wanted)


class Requests(unittest.TestCase):
    def test_no_requests(self):
        self.assertEqual(answers("\nhold 0\nguards -"), [])
        self.assertEqual(answers(sheet(SLOW, 1, ())), [])

    def test_without_events(self):
        wanted = ["-", "-", "-", "-", "0", "-", "-", "never"]
        self.assertEqual(answers(sheet((), 0, (), *REQUESTS)), wanted)
        self.assertEqual(answers("\nhold 40\nguards -\nrun -\nrun 0:0\nrun 0:1\nuntil 0\nsafe 0 a\nwait\nread 0 1"), [
            "-", "-", "refused BadPlace", "refused NoCopy", "refused NoPair", "done", "refused NotJoined",
        ])

    def test_beside_the_functions(self):
        timetables = [LAG, SLOW, BACK, CROSS, COPIES, IN_TURN]
        for seed, timetable in enumerate(timetables + [lagging_timetable(seed, 14, "abc") for seed in range(60)]):
            waits = sum(event[0] == "wait" for event in timetable)
            if waits > 3 or len(guards_of(timetable)) > 5 or len(pairs(timetable)) > 8:
                continue
            rng = random.Random(seed)
            for guards in ((), tuple(guard for guard in guards_of(timetable) if rng.random() < 0.4)):
                for hold in (0, 1, 3):
                    wanted = plain_answers(timetable, hold, guards)
                    self.assertEqual(answers(sheet(timetable, hold, guards, *REQUESTS)), wanted)
                    self.check_others(timetable, hold, guards, random_sweeps(seed, timetable, 4))

    def check_others(self, timetable, hold, guards, sweeps):
        requests = [f"run {sweeps_text(sweeps)}", "run -"]
        wanted = [pairs_text(wrong_pairs(timetable, hold, sweeps, guards)), "-"]
        for copy in range(4):
            requests.append(f"until {copy}")
            if copy < sum(event[0] == "save" for event in timetable):
                waits = usable_for(timetable, hold, copy, guards)
                wanted.append("ever" if waits is None else str(waits))
            else:
                wanted.append("refused NoCopy")
        for reader in range(4):
            for key in ("a", "b", "zz"):
                requests.append(f"safe {reader} {key}")
                known = (reader, key) in pairs(timetable)
                wanted.append(str(safe_hold(timetable, reader, key, guards)) if known else "refused NoPair")
        self.assertEqual(answers(sheet(timetable, hold, guards, *requests)), wanted)

    def test_several_and_none(self):
        two = (
            ("put", "b", 1), ("put", "a", 1), ("join", 10), ("join", 9), ("read", 10, 2), ("read", 9, 2),
            ("drop", "a"), ("drop", "b"), ("read", 10, 4), ("read", 9, 4),
        )
        self.assertEqual(answers(sheet(two, 0, (), "may", "most", "guards", "run 8:4", "run 9:4")), [
            "9:a 9:b 10:a 10:b", "9:a 9:b 10:a 10:b", "reader 9", "9:a 9:b 10:a 10:b", "9:a 9:b",
        ])
        copies = LAG[:3] + (("save", 0), ("save", 0))
        told = answers(sheet(copies, 0, (), "copies", "until 1", "until 2"))
        self.assertEqual(told, ["0 1", "ever", "refused NoCopy"])
        self.assertEqual(answers(sheet(BACK, 0, (), "until 0", "copies", "mend")), ["-1", "-", "impossible"])
        self.assertEqual(answers(sheet(BACK, 9, (), "mend", "danger")), ["-", "never"])
        early = (("join", 0), ("put", "a", 1), ("wait",), ("drop", "a"), ("wait",), ("read", 0, 2))
        self.assertEqual(answers(sheet(early, 1, (), "harms", "mend")), ["2:0", "-"])
        self.assertEqual(answers(sheet(IN_TURN, 1, (), "guards", "least")), ["reader 0, reader 1", "2"])
        self.assertEqual(answers(sheet(IN_TURN, 1, guards_of(IN_TURN), "guards", "least")), ["reader 0, reader 1", "0"])

    def test_the_hold_and_the_guards_of_the_sheet(self):
        guard = (("reader", 0),)
        self.assertEqual(answers(sheet(SLOW, 2, (), "may", "safe 0 a")), ["0:a", "3"])
        self.assertEqual(answers(sheet(SLOW, 3, (), "may", "safe 0 a", "guards")), ["-", "3", "-"])
        self.assertEqual(
            answers(sheet(SLOW, 0, guard, "may", "safe 0 a", "least", "run 4:2", "guards", "danger", "mend", "most")),
            ["-", "0", "0", "-", "reader 0", "never", "-", "-"],
        )
        self.assertEqual(answers("wait\n\nhold 999999999\nguards -\nmay\nleast"), ["-", "0"])


class Events(unittest.TestCase):
    def test_done_from_now_on(self):
        requests = ["may", "drop a", "may", "read 0 2", "may", "load 0 0", "save 0", "until 1", "run 6:2", "run 5:2"]
        wanted = ["-", "done", "-", "done", "0:a", "refused NoCopy", "done", "refused NoCopy", "-", "0:a"]
        self.assertEqual(answers(sheet(LAG[:3], 0, (), *requests)), wanted[:8] + ["-", "-"])
        self.assertEqual(answers(sheet(LAG[:3], 0, (), *requests[:4], "run 5:2", "run 4:2")), wanted[:4] + ["-", "0:a"])

    def test_sweeps_as_the_timetable_is_then(self):
        requests = ["run 3:2", "drop a", "run 4:2", "run 4:3", "run 5:2", "wait", "run 5:2", "run 5:2 4:2"]
        bad = "refused BadPlace"
        self.assertEqual(answers(sheet(LAG[:3], 0, (), *requests)), [bad, "done", "-", bad, bad, "done", "-", bad])

    def test_refused_as_a_log_does(self):
        for line, wanted in (
            ("read 1 1", "NotJoined"), ("read 1 9", "NotJoined"), ("read 0 1", "BadPlace"), ("read 0 0", "BadPlace"),
            ("read 0 4", "BadPlace"), ("save 1", "NotJoined"), ("load 0 0", "NoCopy"), ("load 1 0", "NoCopy"),
        ):
            told = answers(sheet(LAG[:5], 1, (), line, "may", line, "join 1", "save 1", "load 1 0", line))
            self.assertEqual(told[:3], [f"refused {wanted}", "-", f"refused {wanted}"])
            self.assertEqual(told[3:6], ["done"] * 3)

    def test_drawn_events(self):
        refused = 0
        for seed in range(150):
            rng = random.Random(seed)
            timetable, hold = lagging_timetable(seed, 8, "ab", 2), seed % 3
            guards = tuple(guard for guard in guards_of(timetable) if rng.random() < 0.3)
            log, events, requests, wanted = run(timetable, hold, (), guards), list(timetable), [], []
            for _ in range(8):
                event = rng.choice((
                    ("put", "a", rng.randrange(-3, 3)), ("drop", "b"), ("join", rng.randrange(3)), ("wait",),
                    ("read", rng.randrange(3), rng.randrange(9)), ("read", rng.randrange(2), log.many()),
                    ("save", rng.randrange(3)), ("load", rng.randrange(3), rng.randrange(3)),
                ))
                requests += [timetable_text([event]), "may", "least"]
                try:
                    log.do(event)
                    events.append(event)
                    wanted.append("done")
                except (NotJoined, BadPlace, NoCopy) as error:
                    wanted.append(f"refused {error.__class__.__name__}")
                    refused += 1
                self.assertTrue(is_timetable(tuple(events)))
                wanted += [pairs_text(may_pairs(events, hold, guards)), str(least_hold(events, guards))]
            self.assertEqual(answers(sheet(timetable, hold, guards, *requests)), wanted)
        self.assertGreater(refused, 100)


class Runs(unittest.TestCase):
    def test_what_is_no_sweeps(self):
        for text in ("4:3", "8:0", "5:2 4:2", "0:1", "999999999:0", "0:999999999"):
            self.assertEqual(answers(sheet(SLOW, 1, (), f"run {text}")), ["refused BadPlace"])

    def test_drawn(self):
        rng = random.Random(1)
        for _ in range(300):
            sweeps = tuple((rng.randrange(9), rng.randrange(5)) for _ in range(rng.randrange(1, 4)))
            right = is_sweeps(SLOW, sweeps)
            wanted = pairs_text(wrong_pairs(SLOW, 1, sweeps)) if right else "refused BadPlace"
            self.assertEqual(answers(sheet(SLOW, 1, (), f"run {sweeps_text(sweeps)}")), [wanted])


class BadLines(unittest.TestCase):
    def fails(self, text, number):
        with self.assertRaises(BadLine) as caught:
            answers(text)
        self.assertEqual(vars(caught.exception), {"number": number}, repr(text))

    def test_what_is_missing(self):
        for text, number in (
            ("", 1), ("wait", 1), ("wait\nwait", 2), ("wait\n", 2), ("wait\n\nhold 1", 3), ("\nhold 1", 2),
            ("put a 1\njoin 0\n\nhold 3", 4), ("\nhold 0\nguards -", None), ("wait\n\nhold 0\nguards -", None),
        ):
            if number is None:
                self.assertEqual(answers(text), [])
            else:
                self.fails(text, number)

    def test_events(self):
        for bad in BAD_LINES:
            if bad:
                self.fails(bad, 0)
                self.fails("put a 1\n" + bad + "\nread 0 0\n\nhold x\nguards", 1)
                self.fails("put a 1\njoin 0\n" + bad + "\n\nhold 1\nguards -\nmay", 2)
        for text, number in (
            ("read 0 1\n\nhold 1\nguards -", 0), ("join 0\nsave 0\nload 0 1\n\nhold 1\nguards -", 2),
            ("none\n\nhold 1\nguards -", 0), ("put a 1\njoin 0\nread 0 2", 2), ("may\n\nhold 1\nguards -", 0),
            ("hold 1\nguards -\nmay", 0),
        ):
            self.fails(text, number)

    def test_hold(self):
        for bad in BAD_HOLDS:
            self.fails("wait\n\n" + bad + "\nguards -\nmay", 2)
            self.fails("wait\n\n" + bad, 2)
            self.fails("\n" + bad + "\nguards x\nbad", 1)

    def test_guards(self):
        for bad in BAD_GUARDS:
            self.fails("join 0\n\nhold 1\n" + bad + "\nmay", 3)
            self.fails("join 0\n\nhold 1\n" + bad, 3)
            self.fails("join 0\n\nhold 1\n" + bad + "\nno\nno", 3)
        self.assertEqual(answers("join 0\n\nhold 1\nguards reader 0\nmay"), ["-"])
        # Only those of the TIMETABLE as it is ahead of the empty line.
        self.fails("join 0\n\nhold 1\nguards reader 1\njoin 1", 3)

    def test_requests(self):
        for bad in BAD_LINES + BAD_REQUESTS:
            if bad == "run 0:0":
                continue
            self.fails("wait\n\nhold 1\nguards -\n" + bad, 4)
            self.fails("\nhold 1\nguards -\nmay\nread 0 1\n" + bad + "\nmay\n" + bad, 5)

    def test_by_form_alone(self):
        """What only cannot come, or is not there, is refused, not bad."""
        text = "\nhold 1\nguards -\nread 5 5\nload 7 7\nsave 3\nuntil 9\nsafe 9 zz\nrun 9:9 1:1"
        self.assertEqual(answers(text), [
            "refused NotJoined", "refused NoCopy", "refused NotJoined", "refused NoCopy", "refused NoPair",
            "refused BadPlace",
        ])

    def test_a_line_feed_at_the_end(self):
        self.fails("\nhold 1\nguards -\n", 3)
        self.fails("\nhold 1\nguards -\nmay\n", 4)
        self.fails("\n", 1)

    def test_one_line_of_a_sheet_spoiled(self):
        lines = sheet(SLOW, 1, (("reader", 0),), *REQUESTS, "until 0", "safe 0 a", "run 4:2").split("\n")
        for at, line in enumerate(lines):
            for spoiled in (line + " ", " " + line, line + "-", line.upper() or "X", line.replace(" ", "  ") or "  "):
                if spoiled != line:
                    self.fails("\n".join(lines[:at] + [spoiled] + lines[at + 1:]), at)
