"""All SWEEPS of a small TIMETABLE, each done by a Log, and what the document asks of them, counted out."""

from missedmarks.log import Log


def numbered(timetable):
    """The TIMETABLE with the place of each put as its value: so tables tell which put it is."""
    events, total = [], 0
    for event in timetable:
        events.append(("put", event[1], total) if event[0] == "put" else tuple(event))
        total += event[0] in ("put", "drop")
    return tuple(events)


class Run:
    """A Log, and beside it what each reader got on the way to where it is, and when what went."""

    def __init__(self, timetable, hold, guards):
        self.events = numbered(timetable)
        self.log = Log(hold, guards)
        self.sweeps = ()
        self.got = {}
        self.saved = []
        self.gone = {}

    def twin(self):
        other = Run((), 0, ())
        other.events, other.sweeps = self.events, self.sweeps
        other.log = self.log.twin()
        other.got, other.saved, other.gone = dict(self.got), list(self.saved), dict(self.gone)
        return other

    def sweep(self, point):
        self.sweeps += ((self.log.now(), point),)
        self.log.sweep(point)

    def note_gone(self):
        """Note the time, which is behind the sweeps of this time, of all that is gone."""
        there = [place for place, _, _ in self.log.there()]
        for place in range(self.log.many()):
            if place not in there:
                self.gone.setdefault(place, self.log.now())

    def step(self):
        self.note_gone()
        event = self.events[self.log.now()]
        told = self.log.do(event)
        if event[0] == "join":
            self.got[event[1]] = frozenset()
        elif event[0] == "read":
            self.got[event[1]] = self.got[event[1]].union(place for place, _, _ in told)
        elif event[0] == "save":
            self.saved.append(self.got[event[1]])
        elif event[0] == "load":
            self.got[event[1]] = self.saved[event[2]]

    def held(self, reader, key):
        """The place of the value that the reader has, -1 if it has none."""
        return dict(self.log.table(reader)).get(key, -1)

    def wrong(self):
        return {(reader, key) for reader in self.log.readers() for key in self.log.wrong(reader)}


def behind(timetable, hold, sweeps, guards):
    """The Run behind these SWEEPS."""
    run = Run(timetable, hold, guards)
    for time in range(len(timetable) + 1):
        for moment, point in sweeps:
            if moment == time:
                run.sweep(point)
        if time < len(timetable):
            run.step()
    run.note_gone()
    return run


def all_runs(timetable, hold, guards=()):
    """The Runs behind all SWEEPS with one sweep at each time and points that never fall.

    A sweep that does not go beyond an earlier one changes nothing; so these are all that can come about.
    """
    def go_on(run, least):
        for point in range(least, run.log.many() + 1):
            other = run.twin()
            other.sweep(point)
            if other.log.now() < len(timetable):
                other.step()
                yield from go_on(other, point)
            else:
                other.note_gone()
                yield other

    return list(go_on(Run(timetable, hold, guards), 0))


def how_many_runs(timetable):
    """How many all_runs tells."""
    ways, total = [1], 0
    for event in timetable:
        total += event[0] in ("put", "drop")
        ways.append(0)
        ways = [sum(ways[:point + 1]) for point in range(total + 1)]
    return sum(ways)


def least_gone(runs, place):
    """What gone_by tells."""
    return min([run.gone[place] for run in runs if place in run.gone], default=None)


def all_held(runs, reader, key):
    """What may_hold tells."""
    return sorted({run.held(reader, key) for run in runs})


def all_wrong(runs):
    """What may_pairs tells."""
    return sorted(set().union(*[run.wrong() for run in runs]))


def all_savers(runs, reader, key):
    """For each value of the key that the reader has read the list of the entries that save from it."""
    log = runs[0].log
    rows = [event for event in runs[0].events if event[0] in ("put", "drop")]
    places = [place for place, event in enumerate(rows) if event[1] == key and place < log.seat(reader)]
    savers = {}
    for place in places:
        if rows[place][0] == "put":
            with_it = [run.got[reader] for run in runs if place in run.got[reader]]
            savers[place] = [other for other in places if other > place and all(other in got for got in with_it)]
    return savers
