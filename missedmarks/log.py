"""The log: entries, readers with their tables, copies of these, sweeps."""

from missedmarks.errors import BadPlace, NoCopy, NotJoined


class Log:
    """A log that keeps what was put last for each key, and its readers."""

    def __init__(self, hold, guards=()):
        self._hold = hold
        self._guards = tuple([(kind, number) for kind, number in guards])
        self._time = 0
        self._entries = []
        self._gone = []
        self._since = []
        self._seats = {}
        self._tables = {}
        self._copies = []

    def __eq__(self, other):
        return (
            isinstance(other, Log)
            and self._hold == other._hold
            and self._guards == other._guards
            and self._time == other._time
            and self._entries == other._entries
            and self._gone == other._gone
            and self._since == other._since
            and self._seats == other._seats
            and self._tables == other._tables
            and self._copies == other._copies
        )

    def __len__(self):
        return len(self.there())

    def __repr__(self):
        return f"Log({len(self._entries)} entries, {self._gone.count(True)} gone)"

    def put(self, key, value):
        """Put a value; the place of the new entry."""
        return self._append(key, value)

    def drop(self, key):
        """Drop a key, which leaves a mark; the place of the new entry."""
        return self._append(key, None)

    def join(self, reader):
        """The reader begins at place 0 with a bare table, whatever it had."""
        self._seats[reader] = 0
        self._tables[reader] = {}
        self._end_event()

    def read(self, reader, upto):
        """The reader gets what is still there up to this place: the list of (place, key, value)."""
        self._check_joined(reader)
        start = self._seats[reader]
        if not start < upto <= len(self._entries):
            raise BadPlace(upto)
        got = [entry for entry in self.there() if start <= entry[0] < upto]
        table = self._tables[reader]
        for _, key, value in got:
            if value is not None:
                table[key] = value
            elif key in table:
                del table[key]
        self._seats[reader] = upto
        self._end_event()
        return got

    def save(self, reader):
        """Save a copy of what the reader has; the number of the copy."""
        self._check_joined(reader)
        self._copies.append((self._seats[reader], tuple(self.table(reader))))
        self._end_event()
        return len(self._copies) - 1

    def load(self, reader, copy):
        """The reader goes on from this copy, whatever it had."""
        if not 0 <= copy < len(self._copies):
            raise NoCopy(copy)
        place, pairs = self._copies[copy]
        self._seats[reader] = place
        self._tables[reader] = dict(pairs)
        self._end_event()

    def wait(self):
        """An EVENT in which nothing is done."""
        self._end_event()

    def do(self, event):
        """Do an EVENT by the method of its name, and return what this returns."""
        match event:
            case ["put", key, value]:
                return self.put(key, value)
            case ["drop", key]:
                return self.drop(key)
            case ["join", reader]:
                return self.join(reader)
            case ["read", reader, upto]:
                return self.read(reader, upto)
            case ["save", reader]:
                return self.save(reader)
            case ["load", reader, copy]:
                return self.load(reader, copy)
        return self.wait()

    def sweep(self, point):
        """Sweep up to this point, which is no EVENT; the ascending list of the places that go."""
        if not 0 <= point <= len(self._entries):
            raise BadPlace(point)
        before = list(self._gone)
        later = {}
        for place in reversed(range(point)):
            key = self._entries[place][0]
            if key in later:
                self._gone[place] = True
            later[key] = True
            if self._since[place] is None:
                self._since[place] = self._time
        self._let_marks_go()
        return [place for place in range(len(before)) if self._gone[place] and not before[place]]

    def there(self):
        """The list of the triples (place, key, value) of the entries that are there, in order."""
        return [(place, key, value) for place, (key, value) in enumerate(self._entries) if not self._gone[place]]

    def now(self):
        """The time: how many EVENTs were done."""
        return self._time

    def many(self):
        """How many entries there were."""
        return len(self._entries)

    def seat(self, reader):
        """The place where the reader is."""
        self._check_joined(reader)
        return self._seats[reader]

    def table(self, reader):
        """The ascending list of the pairs (key, value) that the reader has."""
        self._check_joined(reader)
        return sorted(self._tables[reader].items())

    def readers(self):
        """The ascending list of the readers that have a table."""
        return sorted(self._tables)

    def copies(self):
        """The list of the copies, each the pair of its place and the tuple of its pairs."""
        return list(self._copies)

    def last(self, key):
        """The place of the last entry of this key, there or gone, None if there is none."""
        found = None
        for place, (name, _) in enumerate(self._entries):
            if name == key:
                found = place
        return found

    def wrong(self, reader):
        """The ascending list of the keys that the reader has though it is beyond the mark that is last."""
        return [key for key, _ in self.table(reader) if self._is_dropped(key, self._seats[reader])]

    def twin(self):
        """A Log in the same state that shares nothing with this one."""
        other = Log(self._hold, self._guards)
        other._time = self._time
        other._entries = list(self._entries)
        other._gone = list(self._gone)
        other._since = list(self._since)
        other._seats = dict(self._seats)
        other._tables = {reader: dict(self._tables[reader]) for reader in self._tables}
        other._copies = list(self._copies)
        return other

    def _append(self, key, value):
        self._entries.append((key, value))
        self._gone.append(False)
        self._since.append(None)
        self._end_event()
        return len(self._entries) - 1

    def _check_joined(self, reader):
        if reader not in self._seats:
            raise NotJoined(reader)

    def _is_dropped(self, key, seat):
        """Whether the last entry of this key, which has one, is a mark below this place."""
        place = self.last(key)
        return place < seat and self._entries[place][1] is None

    def _end_event(self):
        self._time += 1
        self._let_marks_go()

    def _let_marks_go(self):
        """The marks go that were covered for long enough and are behind each guard."""
        # Whatever lies at or beyond the least guard's place has not been passed by all guards.
        for place in range(self._least_guard()):
            since = self._since[place]
            if self._entries[place][1] is None and since is not None and self._time - since >= self._hold:
                self._gone[place] = True

    def _least_guard(self):
        """The least place of a guard that there is, or the number of entries if there is none."""
        least = len(self._entries)
        for kind, number in self._guards:
            if kind == "reader" and number in self._seats:
                least = min(least, self._seats[number])
            if kind == "copy" and number < len(self._copies):
                least = min(least, self._copies[number][0])
        return least


def run(timetable, hold, sweeps=(), guards=()):
    """The Log behind a TIMETABLE with these SWEEPS."""
    log = Log(hold, guards)
    for time, point in sweeps:
        _do_ahead_of(log, timetable, time)
        log.sweep(point)
    _do_ahead_of(log, timetable, len(timetable))
    return log


def _do_ahead_of(log, timetable, time):
    """Do the EVENTs of the TIMETABLE that the Log has not done yet, up to this time."""
    while log.now() < time:
        log.do(timetable[log.now()])
