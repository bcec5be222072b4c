"""A desk: a sheet of lines that tells a TIMETABLE and asks about it, and the answers."""

from missedmarks.atonce import most_at_once
from missedmarks.data import Walk, is_sweeps
from missedmarks.errors import BadLine, BadPlace, BadText, NoCopy, NoPair, NotJoined
from missedmarks.guards import fewest_guards, least_hold
from missedmarks.log import run
from missedmarks.mending import first_danger, harms, mend, safe_copies, usable_for
from missedmarks.stairs import wrong_pairs
from missedmarks.texts import NONE, event_in, guards_in, guards_text, number_in, pairs_text, part_in, points_in
from missedmarks.wrongs import may_pairs, safe_hold

PLAIN_REQUESTS = ("may", "most", "harms", "guards", "least", "mend", "copies", "danger")


class Sheet:
    """A sheet that is written as it must be: a TIMETABLE, which may grow, a hold, GUARDS, and requests."""

    def __init__(self, text):
        self._lines = text.split("\n")
        self._events = self._read_events()
        empty = len(self._events)
        self._hold = self._read_hold(empty + 1)
        self._guards = self._read_guards(empty + 2)
        self._first = empty + 3
        for number in range(self._first, len(self._lines)):
            if not is_request(self._lines[number]):
                raise BadLine(number)

    def answers(self):
        """The list of the answers to the requests, in order."""
        return [self._answer(line) for line in self._lines[self._first:]]

    def _read_events(self):
        """The EVENTs ahead of the empty line."""
        walk = Walk()
        events = []
        for number, line in enumerate(self._lines):
            if line == "":
                return events
            event = event_in(line)
            if event is None or not walk.fits(event):
                raise BadLine(number)
            walk.step(event)
            events.append(event)
        raise BadLine(len(self._lines))

    def _words_at(self, number, word):
        """What stands in this line behind this word and a blank; a line that is missing has this number, too."""
        if number >= len(self._lines):
            raise BadLine(number)
        first, _, rest = self._lines[number].partition(" ")
        if first != word:
            raise BadLine(number)
        return rest

    def _read_hold(self, number):
        hold = number_in(self._words_at(number, "hold"))
        if hold is None:
            raise BadLine(number)
        return hold

    def _read_guards(self, number):
        text = self._words_at(number, "guards")
        try:
            return guards_in(self._events, text)
        except BadText:
            raise BadLine(number)

    def _answer(self, line):
        event = event_in(line)
        if event is not None:
            return self._do(event)
        word, *parts = line.split(" ")
        match word:
            case "until":
                return self._until(number_in(parts[0]))
            case "safe":
                return self._safe(number_in(parts[0]), parts[1])
            case "run":
                return self._run(points_in(" ".join(parts)))
        return self._plain_answer(word)

    def _plain_answer(self, word):
        """The answer to a request of one word."""
        asked = (self._events, self._hold, self._guards)
        match word:
            case "may":
                return pairs_text(may_pairs(*asked))
            case "most":
                return pairs_text(most_at_once(*asked))
            case "harms":
                return pairs_text(harms(*asked))
            case "guards":
                return guards_text(fewest_guards(self._events, self._hold))
            case "least":
                return str(least_hold(self._events, self._guards))
            case "mend":
                reads = mend(*asked)
                return "impossible" if reads is None else pairs_text(reads)
            case "copies":
                return " ".join([str(copy) for copy in safe_copies(*asked)]) or NONE
        count = first_danger(*asked)
        return "never" if count is None else str(count)

    def _do(self, event):
        """Do this EVENT behind the TIMETABLE, from now on, if it can come there."""
        try:
            run(self._events + [event], self._hold)
        except NotJoined:
            return "refused NotJoined"
        except BadPlace:
            return "refused BadPlace"
        except NoCopy:
            return "refused NoCopy"
        self._events.append(event)
        return "done"

    def _until(self, copy):
        try:
            waits = usable_for(self._events, self._hold, copy, self._guards)
        except NoCopy:
            return "refused NoCopy"
        return "ever" if waits is None else str(waits)

    def _safe(self, reader, key):
        try:
            return str(safe_hold(self._events, reader, key, self._guards))
        except NoPair:
            return "refused NoPair"

    def _run(self, sweeps):
        if not is_sweeps(self._events, sweeps):
            return "refused BadPlace"
        return pairs_text(wrong_pairs(self._events, self._hold, sweeps, self._guards))


def answers(text):
    """The list of the answers to the requests of this sheet."""
    return Sheet(text).answers()


def is_request(line):
    """Whether this line is a request, by its form alone."""
    if event_in(line) is not None or line in PLAIN_REQUESTS:
        return True
    word, *parts = line.split(" ")
    match word:
        case "until":
            return len(parts) == 1 and number_in(parts[0]) is not None
        case "safe":
            return len(parts) == 2 and number_in(parts[0]) is not None and part_in("key", parts[1]) is not None
        case "run":
            return points_in(" ".join(parts)) is not None
    return False
