"""[2] for mending, texts and desk: lists for tuples, names, arguments left out and left alone, new results."""

import unittest

from missedmarks.desk import answers
from missedmarks.mending import first_danger, harms, is_mend, mend, safe_copies, usable_for, with_reads
from missedmarks.texts import guards_in, guards_text, sweeps_in, sweeps_text, timetable_in, timetable_text
from tests.call_forms import Forms
from tests.samples import BACK, COPIES, SLOW
from tests.test_mending import EARLY, KEPT, PAIR

READER, COPY = (("reader", 0),), (("copy", 0),)


def calls_of_mending(timetable, hold, guards, thing):
    case = {"timetable": timetable, "hold": hold}
    return [
        (with_reads, {"timetable": timetable, "reads": thing}), (mend, {**case, "guards": guards}),
        (is_mend, {**case, "thing": thing, "guards": guards}), (harms, {**case, "guards": guards}),
        (first_danger, {**case, "guards": guards}), (safe_copies, {**case, "guards": guards}),
    ]


CALLS = (
    calls_of_mending(SLOW, 1, (), ((4, 0),)) + calls_of_mending(EARLY, 1, (), ((2, 0), (4, 0)))
    + calls_of_mending(PAIR, 2, READER, ((6, 0), (7, 1))) + calls_of_mending(PAIR, 2, (), ((6, 0), (7, 1)))
    + calls_of_mending(KEPT, 3, (), ()) + calls_of_mending(BACK, 0, (("copy", 0),), ())
    + [(usable_for, {"timetable": KEPT, "hold": 4, "copy": 0, "guards": guards}) for guards in ((), READER, COPY)]
    + [
        (timetable_text, {"timetable": COPIES}), (timetable_text, {"timetable": ()}),
        (sweeps_text, {"sweeps": ((4, 2), (5, 2))}), (sweeps_text, {"sweeps": ()}),
        (guards_text, {"guards": (("copy", 0), ("reader", 1))}), (guards_text, {"guards": ()}),
        (timetable_in, {"text": timetable_text(COPIES)}), (timetable_in, {"text": "none"}),
        (sweeps_in, {"timetable": SLOW, "text": "4:2 5:2"}), (sweeps_in, {"timetable": SLOW, "text": "-"}),
        (guards_in, {"timetable": BACK, "text": "copy 0, reader 0"}), (guards_in, {"timetable": BACK, "text": "-"}),
        (answers, {"text": timetable_text(SLOW) + "\n\nhold 1\nguards -\nmay\nmend"}),
        (answers, {"text": "\nhold 0\nguards -"}),
    ]
)


class Calls(Forms, unittest.TestCase):
    calls = CALLS
    kinds = {
        with_reads: tuple, mend: tuple, is_mend: bool, harms: list, first_danger: int, safe_copies: list,
        usable_for: int, timetable_text: str, sweeps_text: str, guards_text: str, timetable_in: tuple,
        sweeps_in: tuple, guards_in: tuple, answers: list,
    }
