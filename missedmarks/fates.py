"""When entries go, and what a reader gets of a key, for any SWEEPS of a TIMETABLE with a hold and GUARDS."""

from missedmarks.data import entries
from missedmarks.paths import next_of, places_at, times_of
from missedmarks.stairs import sweeps_under


class Fates:
    """The entries of a TIMETABLE, of which marks stay for a hold, and as long as GUARDS need them."""

    def __init__(self, timetable, hold, guards):
        rows = entries(timetable)
        self._hold = hold
        self._nexts = [next_of(timetable, place) for place in range(len(rows))]
        self._marks = [value is None for _, _, value in rows]
        self._limits = _guard_limits(timetable, guards)

    def gone_times(self, sweeps):
        """For each entry the time at which it goes, None if it never does."""
        covered = [_covered_at(place, sweeps) for place in range(len(self._nexts))]
        return [self._gone_time(place, covered) for place in range(len(covered))]

    def next_place(self, place):
        """The place of the next entry of the same key, None if there is none."""
        return self._nexts[place]

    def _gone_time(self, place, covered):
        times = []
        later = self._nexts[place]
        if later is not None and covered[later] is not None:
            times.append(covered[later])
        if self._marks[place] and covered[place] is not None:
            soonest = covered[place] + self._hold
            # A guard may come, or go back, when the hold is over: the first moment counts at which none needs the mark.
            times += [time for time in range(soonest, len(self._limits)) if place < self._limits[time]]
        return min(times, default=None)


class Reading:
    """The entries of one key that one reader has read in the end, each at its time."""

    def __init__(self, timetable, hold, reader, key, guards):
        rows = entries(timetable)
        self._timetable = list(timetable)
        self._fates = Fates(timetable, hold, guards)
        self._times = times_of(timetable, reader)
        self._places = [place for place in range(len(self._times)) if rows[place][1] == key]
        self._value_places = [place for place in self._places if rows[place][2] is not None]

    def value_places(self):
        """The ascending list of the places of the values that it has read, also of those that it did not get."""
        return list(self._value_places)

    def got(self, sweeps):
        """The ascending list of the places of what it got with these SWEEPS."""
        return self._got_of(self._fates.gone_times(sweeps))

    def held(self, sweeps):
        """The place of the value that it has in the end with these SWEEPS, -1 if it has none."""
        return self.held_of(self._fates.gone_times(sweeps))

    def held_of(self, gone):
        """The place of the value that it has in the end if the entries go at these times, -1 if it has none."""
        last = -1
        for place in self._got_of(gone):
            last = place if place in self._value_places else -1
        return last

    def bounds(self):
        """For each value that it can have in the end the bound of the SWEEPS with which it gets it.

        A value needs the next entry of its key behind it: that of a pair has one, its last mark at least.
        """
        bounds = []
        for place in self._value_places:
            bound = (self._times[place], self._fates.next_place(place))
            if self.held(sweeps_under(self._timetable, [bound])) == place:
                bounds.append(bound)
        return bounds

    def sweeps_with(self, place):
        """SWEEPS with which it gets this entry, and of those behind it none that it can miss."""
        # Of this key nothing lies between this entry and the next one, so it costs nothing to stop at this one.
        return sweeps_under(self._timetable, [(self._times[place], place)])

    def extremes(self):
        """SWEEPS that bring about all that it can hold in the end.

        What it holds it got last: whoever wants this wants the one entry there, and all later ones gone.
        """
        return [sweeps_under(self._timetable, [])] + [self.sweeps_with(place) for place in self._places]

    def savers(self, place):
        """The ascending list of the entries behind this one that it gets with all SWEEPS with which it gets this."""
        return [later for later in self.got(self.sweeps_with(place)) if later > place]

    def _got_of(self, gone):
        return [place for place in self._places if gone[place] is None or self._times[place] < gone[place]]


def _guard_limits(timetable, guards):
    """For each time the least place of a guard that there is then, or the number of all entries."""
    known = [(kind, number) for kind, number in guards]
    most = len(entries(timetable))
    return [min([most] + [place for guard, place in row if guard in known]) for row in places_at(timetable)]


def _covered_at(place, sweeps):
    """The time of the first sweep that goes beyond this place, None if none does."""
    for time, point in sweeps:
        if place < point:
            return time
    return None
