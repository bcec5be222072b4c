"""A TIMETABLE that is edited, with a hold and guards; each edit can be taken back."""

from missedmarks.atonce import most_at_once
from missedmarks.data import Walk, guards_of
from missedmarks.errors import NoEvent, NothingDone, Unfit
from missedmarks.log import run
from missedmarks.mending import mend, safe_copies
from missedmarks.wrongs import may_pairs


class Session:
    """A TIMETABLE under edits, a hold and guards, with all states that undo can bring back."""

    def __init__(self, timetable, hold, guards=()):
        self._events = _plain(timetable)
        self._hold = hold
        self._guards = _plain(guards)
        self._states = []

    def __iter__(self):
        return iter(self._events)

    def __len__(self):
        return len(self._events)

    def add(self, event):
        """The EVENT stands behind the last one."""
        self._edit(self._events + (tuple(event),))

    def insert(self, time, event):
        """The EVENT stands ahead of the one at this time, or behind the last one."""
        if not 0 <= time <= len(self._events):
            raise NoEvent(time)
        self._edit(self._events[:time] + (tuple(event),) + self._events[time:])

    def drop(self, time):
        """The EVENT at this time goes."""
        self._check_event(time)
        self._edit(self._events[:time] + self._events[time + 1:])

    def exchange(self, time):
        """The EVENT at this time and the next one exchange their places."""
        if not 0 <= time < len(self._events) - 1:
            raise NoEvent(time)
        one, other = self._events[time], self._events[time + 1]
        self._edit(self._events[:time] + (other, one) + self._events[time + 2:])

    def let(self, hold):
        """Another hold."""
        self._keep()
        self._hold = hold

    def set_guards(self, guards):
        """Other guards."""
        self._keep()
        self._guards = _plain(guards)

    def undo(self):
        """Take back the last edit that was not taken back."""
        if len(self._states) == 0:
            raise NothingDone()
        self._events, self._hold, self._guards = self._states.pop()

    def timetable(self):
        """The TIMETABLE as it is now."""
        return self._events

    def hold(self):
        """The hold as it is now."""
        return self._hold

    def guards(self):
        """Those of the guards that are GUARDS of the TIMETABLE now."""
        known = guards_of(self._events)
        return tuple([guard for guard in self._guards if guard in known])

    def many(self):
        """How many undos are possible."""
        return len(self._states)

    def may(self):
        """The ascending list of the pairs (reader, key) that may be wrong."""
        return may_pairs(self._events, self._hold, self.guards())

    def most(self):
        """The least SET of as many pairs as can be wrong at once."""
        return most_at_once(self._events, self._hold, self.guards())

    def mended(self):
        """As few READS as can be that make the TIMETABLE safe, None if there are none."""
        return mend(self._events, self._hold, self.guards())

    def usable(self):
        """The ascending list of the copies that are safe after no waits."""
        return safe_copies(self._events, self._hold, self.guards())

    def after(self, sweeps):
        """The Log behind the TIMETABLE with these SWEEPS."""
        return run(self._events, self._hold, sweeps, self.guards())

    def twin(self):
        """A Session in the same state, with the same undos, that shares nothing with this one."""
        other = Session(self._events, self._hold, self._guards)
        other._states = list(self._states)
        return other

    def _check_event(self, time):
        if not 0 <= time < len(self._events):
            raise NoEvent(time)

    def _edit(self, events):
        """These are the EVENTs from now on, if each can come where it stands."""
        walk = Walk()
        for time, event in enumerate(events):
            if not walk.fits(event):
                raise Unfit(time)
            walk.step(event)
        self._keep()
        self._events = events

    def _keep(self):
        """Keep the state ahead of an edit."""
        self._states.append((self._events, self._hold, self._guards))


def _plain(rows):
    """Rows as a tuple of tuples, which nobody can change behind."""
    return tuple([tuple(row) for row in rows])
