"""TIMETABLEs, SWEEPS and GUARDS as texts, and back."""

from missedmarks.data import Walk, is_guards, is_key, is_sweeps
from missedmarks.errors import BadText

# For each kind of EVENT what its parts are.
PARTS = {
    "put": ("key", "value"),
    "drop": ("key",),
    "join": ("number",),
    "read": ("number", "number"),
    "save": ("number",),
    "load": ("number", "number"),
    "wait": (),
}
DIGITS = "0123456789"
MOST_DIGITS = 9
NO_EVENTS = "none"
NONE = "-"


def timetable_text(timetable):
    """The text of a TIMETABLE."""
    if len(timetable) == 0:
        return NO_EVENTS
    return "\n".join([" ".join([str(part) for part in event]) for event in timetable])


def sweeps_text(sweeps):
    """The text of SWEEPS."""
    return pairs_text(sweeps)


def guards_text(guards):
    """The text of GUARDS."""
    return ", ".join([f"{kind} {number}" for kind, number in guards]) or NONE


def timetable_in(text):
    """The TIMETABLE that has this text."""
    if text == NO_EVENTS:
        return ()
    walk = Walk()
    events = []
    for number, line in enumerate(text.split("\n")):
        event = event_in(line)
        if event is None or not walk.fits(event):
            raise BadText(number)
        walk.step(event)
        events.append(event)
    return tuple(events)


def sweeps_in(timetable, text):
    """The SWEEPS of the TIMETABLE that have this text."""
    sweeps = points_in(text)
    if not is_sweeps(timetable, sweeps):
        raise BadText(0)
    return sweeps


def guards_in(timetable, text):
    """The GUARDS of the TIMETABLE that have this text."""
    rows = [] if text == NONE else [row.partition(" ") for row in text.split(", ")]
    guards = tuple([(kind, number_in(number)) for kind, _, number in rows])
    if not is_guards(timetable, guards):
        raise BadText(0)
    return guards


def pairs_text(pairs):
    """The text of pairs: with a colon in each, and blanks between."""
    return " ".join([f"{one}:{other}" for one, other in pairs]) or NONE


def event_in(line):
    """The EVENT that is so written, None if there is none."""
    words = line.split(" ")
    kinds = PARTS.get(words[0])
    if kinds is None or len(words) != len(kinds) + 1:
        return None
    parts = [part_in(kind, word) for kind, word in zip(kinds, words[1:])]
    return None if None in parts else (words[0], *parts)


def part_in(kind, word):
    """The part of an EVENT that is so written, None if there is none."""
    if kind == "key":
        return word if is_key(word) else None
    if kind == "value" and word.startswith("-"):
        number = number_in(word[1:])
        return None if number is None or number == 0 else -number
    return number_in(word)


def number_in(word):
    """The number from 0 that is so written, None if there is none."""
    if not 1 <= len(word) <= MOST_DIGITS or not all([sign in DIGITS for sign in word]):
        return None
    return None if word.startswith("0") and word != "0" else int(word)


def points_in(text):
    """The pairs of numbers that have this text, which may be no SWEEPS; None if it is not so written."""
    words = [] if text == NONE else text.split(" ")
    pairs = []
    for word in words:
        numbers = [number_in(part) for part in word.split(":")]
        if len(numbers) != 2 or None in numbers:
            return None
        pairs.append(tuple(numbers))
    return tuple(pairs)
