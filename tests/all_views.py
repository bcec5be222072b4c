"""A search through all small TIMETABLEs and all their SWEEPS that a VIEW fits, each done by a Log.

One reader reads all, at the times of the VIEW, and nothing comes behind its last read: of several that load from each
other's copies those that do not read could as well wait, and what comes later was not read. Of keys that the VIEW does
not tell there are two.
"""

from missedmarks.log import Log

OTHERS = ("yy", "zz")


def how_free(view):
    """How many EVENTs there are of which the VIEW tells nothing: what the search takes grows with these."""
    return view[-1][0] - len(view) - sum(len(got) for _, _, got in view)


class State:
    """A Log behind a few EVENTs, and what the search must know of it."""

    def __init__(self, hold):
        self.log = Log(hold)
        self.entries = ()
        self.covers = ()
        self.joined = False

    def twin(self):
        other = State(0)
        other.log, other.entries, other.covers, other.joined = self.log.twin(), self.entries, self.covers, self.joined
        return other

    def name(self):
        """The same for states in which all that comes later comes the same."""
        return self.log.now(), self.entries, self.covers, self.log.seat(0) if self.joined else -1

    def swept(self, point):
        other = self.twin()
        other.covers += (self.log.now(),) * (point - len(self.covers))
        other.log.sweep(point)
        return other

    def after(self, event):
        """The State behind this EVENT, and what the Log returned."""
        other = self.twin()
        told = other.log.do(event)
        if event[0] in ("put", "drop"):
            other.entries += ((event[1], event[2] if event[0] == "put" else None),)
        other.joined = other.joined or event[0] == "join"
        return other, told


class Search:
    """All that can be behind a VIEW with one EVENT at least: for each way the places of the last marks of the keys that
    are held wrongly.
    """

    def __init__(self, hold, view):
        self.reads = {time: (upto, got) for time, upto, got in view}
        self.first, self.end = view[0][0], view[-1][0]
        self.size = view[-1][1]
        self.taken = {place: (key, value) for _, _, got in view for place, key, value in got}
        self.keys = sorted({key for key, _ in self.taken.values()}) + list(OTHERS)
        self.found, self.seen = [], set()
        self.go_on([State(hold)])

    def go_on(self, states):
        while states:
            state = states.pop()
            for point in range(len(state.covers), state.log.many() + 1):
                for other in self.steps(state.swept(point)):
                    if other.name() not in self.seen:
                        self.seen.add(other.name())
                        states.append(other)

    def steps(self, state):
        time = state.log.now()
        if time not in self.reads:
            return [state.after(event)[0] for event in self.events(state)]
        upto, got = self.reads[time]
        if not state.joined or state.log.many() < upto:
            return []
        other, told = state.after(("read", 0, upto))
        if tuple(told) != got:
            return []
        if time < self.end:
            return [other]
        self.note(other.log)
        return []

    def events(self, state):
        yield ("wait",)
        if not state.joined and state.log.now() < self.first:
            yield ("join", 0)
        place = state.log.many()
        names = [key for key, _ in state.entries]
        # The second of the other keys comes behind the first one: before, each does for the other one.
        keys = [key for key in self.keys if key != OTHERS[1] or OTHERS[0] in names]
        known = [self.taken[place]] if place in self.taken else [(key, value) for key in keys for value in (1, None)]
        for key, value in known:
            yield ("drop", key) if value is None else ("put", key, value)

    def note(self, log):
        held = dict(log.table(0))
        marks = {key: log.last(key) for key in log.wrong(0)}
        assert all(key in held and marks[key] < self.size for key in marks)
        if marks not in self.found:
            self.found.append(marks)

    def doubtful(self):
        return sorted(set().union(*self.found))

    def can(self, keys):
        return any(set(keys) <= set(marks) for marks in self.found)

    def most(self):
        return min((tuple(sorted(marks)) for marks in self.found), key=lambda keys: (-len(keys), keys))

    def places(self, key):
        return sorted({marks[key] for marks in self.found if key in marks})
