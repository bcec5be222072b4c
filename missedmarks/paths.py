"""Who has read what, and when: what a TIMETABLE tells of its readers, whatever is swept."""

from missedmarks.data import Walk, entries
from missedmarks.errors import NotJoined


def times_of(timetable, reader):
    """For each place ahead of the reader in the end the time at which it has read it."""
    times = {}
    saved = []
    for time, event in enumerate(timetable):
        match event:
            case ["join", who]:
                times[who] = []
            case ["read", who, upto]:
                times[who] = times[who] + [time] * (upto - len(times[who]))
            case ["save", who]:
                saved.append(times[who])
            case ["load", who, copy]:
                times[who] = saved[copy]
    if reader not in times:
        raise NotJoined(reader)
    return times[reader]


def places_at(timetable):
    """For each time, and behind all, the ascending list of the pairs (GUARD, place) that there are then."""
    walk = Walk()
    rows = [_places(walk)]
    for event in timetable:
        walk.step(event)
        rows.append(_places(walk))
    return rows


def _places(walk):
    copies = [(("copy", copy), place) for copy, place in enumerate(walk.saved)]
    return copies + [(("reader", reader), walk.seats[reader]) for reader in sorted(walk.seats)]


def next_of(timetable, place):
    """The place of the next entry of the same key, None if there is none."""
    rows = entries(timetable)
    for later in range(place + 1, len(rows)):
        if rows[later][1] == rows[place][1]:
            return later
    return None


def pairs(timetable):
    """The ascending list of the pairs (reader, key) with the reader beyond the mark that is the key's last entry."""
    walk = Walk()
    for event in timetable:
        walk.step(event)
    marks = _last_marks(timetable)
    return [(reader, key) for reader in sorted(walk.seats) for key in sorted(marks) if marks[key] < walk.seats[reader]]


def _last_marks(timetable):
    """For each key of which the last entry is a mark the place of this mark."""
    rows = entries(timetable)
    lasts = {key: place for place, (_, key, _) in enumerate(rows)}
    return {key: place for key, place in lasts.items() if rows[place][2] is None}
