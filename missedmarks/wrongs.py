"""What a reader may hold in the end, whenever sweeps come, and what shows that it is safe."""

from missedmarks.data import is_count_pair, is_sweeps
from missedmarks.errors import NoPair
from missedmarks.fates import Fates, Reading
from missedmarks.paths import pairs
from missedmarks.stairs import sweeps_under


def gone_by(timetable, hold, place, guards=()):
    """The least time at which this entry can be gone, None if it never is."""
    # No entry goes later for being covered sooner, so the greatest sweeps are the soonest for each.
    return Fates(timetable, hold, guards).gone_times(sweeps_under(timetable, []))[place]


def may_hold(timetable, hold, reader, key, guards=()):
    """The ascending list of the places of the values that the reader can have in the end; -1 for none."""
    reading = Reading(timetable, hold, reader, key, guards)
    return sorted({reading.held(sweeps) for sweeps in reading.extremes()})


def story(timetable, hold, reader, key, place, guards=()):
    """SWEEPS with which the reader has the value of this place in the end; None if it cannot."""
    reading = Reading(timetable, hold, reader, key, guards)
    for sweeps in reading.extremes():
        if reading.held(sweeps) == place:
            return sweeps
    return None


def is_story(timetable, hold, reader, key, place, guards, thing):
    """Whether this is SWEEPS with which the reader has the value of this place in the end."""
    reading = Reading(timetable, hold, reader, key, guards)
    return is_sweeps(timetable, thing) and reading.held(thing) == place


def may_be_wrong(timetable, hold, reader, key, guards=()):
    """Whether the reader can be wrong at the key in the end."""
    _check_pair(timetable, reader, key)
    return _can_be_wrong(timetable, hold, reader, key, guards)


def may_pairs(timetable, hold, guards=()):
    """The ascending list of the pairs (reader, key) that can be wrong in the end."""
    return [(reader, key) for reader, key in pairs(timetable) if _can_be_wrong(timetable, hold, reader, key, guards)]


def safe_hold(timetable, reader, key, guards=()):
    """The least hold with which the reader cannot be wrong at the key."""
    _check_pair(timetable, reader, key)
    hold = 0
    # This ends: with a hold as great as the number of EVENTs no mark ever goes.
    while _can_be_wrong(timetable, hold, reader, key, guards):
        hold += 1
    return hold


def safe_paper(timetable, hold, reader, key, guards=()):
    """For each value that the reader has read the pair of it and the least entry that saves; None if one has none."""
    _check_pair(timetable, reader, key)
    reading = Reading(timetable, hold, reader, key, guards)
    paper = []
    for place in reading.value_places():
        savers = reading.savers(place)
        if not savers:
            return None
        paper.append((place, savers[0]))
    return tuple(paper)


def shows_safe(timetable, hold, reader, key, guards, thing):
    """Whether this is a tuple of pairs, one for each value that the reader has read, each with an entry that saves."""
    _check_pair(timetable, reader, key)
    reading = Reading(timetable, hold, reader, key, guards)
    places = reading.value_places()
    if not isinstance(thing, tuple) or len(thing) != len(places):
        return False
    return all([_saves(reading, place, line) for place, line in zip(places, thing)])


def _saves(reading, place, line):
    """Whether this line of a paper is the pair of this place and an entry that saves from its value."""
    return is_count_pair(line) and line[0] == place and line[1] in reading.savers(place)


def _check_pair(timetable, reader, key):
    if (reader, key) not in pairs(timetable):
        raise NoPair(reader, key)


def _can_be_wrong(timetable, hold, reader, key, guards):
    # Of a pair the last entry is a mark that the reader is beyond: any value that it has is wrong.
    return may_hold(timetable, hold, reader, key, guards)[-1] >= 0
