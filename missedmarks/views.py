"""What a reader knows by itself: which of its keys it can be sure of by what it has read, when nobody guards."""

from missedmarks.data import LETTERS, entries, is_count, is_key, is_number, is_sweeps, is_timetable, readers_of
from missedmarks.errors import CannotBe
from missedmarks.fates import Fates
from missedmarks.paths import times_of


class Sight:
    """A VIEW place by place, and the times at which entries can come that one reader reads so.

    Who copies, and who loads, could as well wait: it is enough to ask what one reader can have read that joins once.
    """

    def __init__(self, view):
        self.reads = {time: upto for time, upto, _ in view}
        self.taken = {place: (key, value) for _, _, got in view for place, key, value in got}
        self.times = _read_times(view)
        self.gaps = [place for place in range(len(self.times)) if place not in self.taken]
        # The later the join, the sooner the entries: just ahead of the first READ it costs them least.
        self.joined = view[0][0] - 1 if view else 0
        end = view[-1][0] if view else 0
        self.slots = [time for time in range(end) if time not in self.reads and time != self.joined]

    def has_room(self):
        """Whether there can be enough entries ahead of each READ."""
        return all([upto <= len([slot for slot in self.slots if slot < time]) for time, upto in self.reads.items()])

    def held(self):
        """For each key that is held the place of its last value."""
        lasts = {key: place for place, (key, _) in sorted(self.taken.items())}
        return {key: place for key, place in lasts.items() if self.taken[place][1] is not None}

    def key_rows(self):
        """All rows of keys that can matter: one for each place, and one for an entry behind that the reader leaves out.

        A gap can have a key that the reader knows, or share one that it does not know with the entry behind.
        """
        if not self.has_room():
            return []
        known = sorted({key for key, _ in self.taken.values()})
        other = [letter for letter in LETTERS if letter not in known][0]
        rows = [[]]
        for place in range(len(self.times)):
            choices = [self.taken[place][0]] if place in self.taken else known + [other]
            rows = [row + [key] for row in rows for key in choices]
        behind = [other] if len(self.slots) > len(self.times) else []
        return [row + behind for row in rows]

    def timetable(self, keys):
        """The TIMETABLE with these keys; what the reader did not get is a mark."""
        places = {slot: place for place, slot in enumerate(self.slots)}
        events = []
        for time in range(self.times[-1] + 1):
            if time in self.reads:
                events.append(("read", 0, self.reads[time]))
            elif time == self.joined:
                events.append(("join", 0))
            elif places[time] < len(keys):
                events.append(self._entry(places[time], keys[places[time]]))
            else:
                events.append(("wait",))
        return tuple(events)

    def _entry(self, place, key):
        if place not in self.taken or self.taken[place][1] is None:
            return ("drop", key)
        return ("put", key, self.taken[place][1])


class Guess:
    """What there can have been behind a VIEW: a key for each place, and the greatest sweeps that let what was got.

    At the gaps stand marks: a mark goes whenever a value of its key would go, and sooner.
    """

    def __init__(self, hold, sight, keys):
        self._hold = hold
        self._sight = sight
        self._keys = keys
        self._covers = self._soonest_covers()

    def fits(self):
        """Whether each gap is gone when the reader comes by."""
        return all([self._is_gone(gap) for gap in self._sight.gaps])

    def wrong_marks(self):
        """For each key that is held wrongly the place of its last mark."""
        lasts = {key: place for place, key in enumerate(self._keys)}
        return {key: lasts[key] for key, place in self._sight.held().items() if lasts[key] > place}

    def pair(self):
        """The TIMETABLE and the SWEEPS."""
        last = self._sight.times[-1]
        sweeps = [(time, place + 1) for place, time in enumerate(self._covers) if time <= last]
        return self._sight.timetable(self._keys), tuple(sweeps)

    def _soonest_covers(self):
        """For each place the soonest time of a sweep beyond it with which all is there that was got."""
        soonest = [slot + 1 for _, slot in zip(self._keys, self._sight.slots)]
        for place, (_, value) in self._sight.taken.items():
            behind = self._sight.times[place] + 1
            later = self._next_place(place)
            if later is not None:
                soonest[later] = max(soonest[later], behind)
            if value is None:
                soonest[place] = max(soonest[place], behind - self._hold)
        # Who goes beyond a place goes beyond all ahead of it.
        return [max(soonest[:place + 1]) for place in range(len(soonest))]

    def _next_place(self, place):
        for later in range(place + 1, len(self._keys)):
            if self._keys[later] == self._keys[place]:
                return later
        return None

    def _is_gone(self, gap):
        read = self._sight.times[gap]
        later = self._next_place(gap)
        return self._covers[gap] + self._hold <= read or (later is not None and self._covers[later] <= read)


def is_view(thing):
    """Whether this is a VIEW."""
    if not isinstance(thing, tuple):
        return False
    latest, seat = -1, 0
    for read in thing:
        if not isinstance(read, tuple) or len(read) != 3 or not is_count(read[0]) or not is_count(read[1]):
            return False
        time, upto, got = read
        if time <= latest or upto <= seat or not _is_got(got, seat, upto):
            return False
        latest, seat = time, upto
    return True


def view_of(timetable, hold, sweeps, reader):
    """The VIEW of a reader in a TIMETABLE with SWEEPS."""
    rows = entries(timetable)
    times = times_of(timetable, reader)
    gone = Fates(timetable, hold, ()).gone_times(sweeps)
    got = [place for place in range(len(times)) if gone[place] is None or times[place] < gone[place]]
    reads = []
    for moment in sorted(set(times)):
        upto = max([place for place in range(len(times)) if times[place] == moment]) + 1
        told = [(place, rows[place][1], rows[place][2]) for place in got if times[place] == moment]
        reads.append((moment, upto, tuple(told)))
    return tuple(reads)


def held_by(view):
    """The ascending list of the pairs (key, value) of what is held."""
    sight = Sight(view)
    return sorted([sight.taken[place] for place in sight.held().values()])


def can_be(hold, view):
    """Whether the VIEW fits some TIMETABLE with this hold."""
    return len(_fitting(hold, view)) > 0


def missed_places(hold, view, key):
    """The ascending list of the gaps at which the last mark of this key can stand if it is held wrongly."""
    marks = [guess.wrong_marks() for guess in _checked(hold, view)]
    return sorted({places[key] for places in marks if key in places})


def doubtful(hold, view):
    """The ascending list of the keys that are held, and that can be held wrongly."""
    return sorted({key for guess in _checked(hold, view) for key in guess.wrong_marks()})


def sure(hold, view):
    """The ascending list of the keys that are held, and that cannot be held wrongly."""
    doubted = doubtful(hold, view)
    return [key for key, _ in held_by(view) if key not in doubted]


def doubt(hold, view, keys):
    """A pair of a TIMETABLE and SWEEPS that the VIEW fits with all these keys held wrongly; None if there is none."""
    for guess in _checked(hold, view):
        marks = guess.wrong_marks()
        if all([key in marks for key in keys]):
            return guess.pair()
    return None


def most_doubtful(hold, view):
    """As many keys as can be that are all held wrongly in one TIMETABLE, ascending, of several the least."""
    rows = [tuple(sorted(guess.wrong_marks())) for guess in _checked(hold, view)]
    return min(rows, key=lambda keys: (-len(keys), keys))


def shows_doubt(hold, view, keys, thing):
    """Whether this is a pair of a TIMETABLE and SWEEPS that the VIEW fits with all these keys held wrongly."""
    if not isinstance(thing, tuple) or len(thing) != 2:
        return False
    timetable, sweeps = thing
    if not is_timetable(timetable) or not is_sweeps(timetable, sweeps):
        return False
    if _plain(view) not in [view_of(timetable, hold, sweeps, reader) for reader in readers_of(timetable)]:
        return False
    sight = Sight(view)
    held = sight.held()
    rows = entries(timetable)
    lasts = {key: place for place, (_, key, _) in enumerate(rows)}
    wrong = [key for key in held if rows[lasts[key]][2] is None and lasts[key] < len(sight.times)]
    return all([key in wrong for key in keys])


def _is_got(thing, start, end):
    """Whether this is an ascending tuple of triples (place, key, value) with unlike places from start to end."""
    if not isinstance(thing, tuple):
        return False
    for row in thing:
        if not isinstance(row, tuple) or len(row) != 3 or not is_count(row[0]) or not start <= row[0] < end:
            return False
        if not is_key(row[1]) or not (row[2] is None or is_number(row[2])):
            return False
        start = row[0] + 1
    return True


def _read_times(view):
    """For each place below the last upto the time at which it was read."""
    times = []
    for time, upto, _ in view:
        times += [time] * (upto - len(times))
    return times


def _plain(view):
    """The VIEW as tuples throughout."""
    return tuple([(time, upto, tuple([tuple(row) for row in got])) for time, upto, got in view])


def _fitting(hold, view):
    """All guesses that the VIEW fits."""
    sight = Sight(view)
    guesses = [Guess(hold, sight, keys) for keys in sight.key_rows()]
    return [guess for guess in guesses if guess.fits()]


def _checked(hold, view):
    fitting = _fitting(hold, view)
    if len(fitting) == 0:
        raise CannotBe()
    return fitting
