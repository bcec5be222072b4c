"""Which further reads mend a TIMETABLE, from when on it is in danger, and which copies can still be used."""

from missedmarks.data import Walk, is_count_pair, readers_of
from missedmarks.errors import NoCopy
from missedmarks.wrongs import may_pairs


def with_reads(timetable, reads):
    """The TIMETABLE in which at each of these times this reader reads all that there is; needless reads are waits."""
    added = {time: reader for time, reader in reads}
    walk = Walk()
    events = []
    for time, event in enumerate(timetable):
        wanted = ("read", added[time], walk.total) if time in added else tuple(event)
        done = ("wait",) if wanted[0] == "read" and not walk.fits(wanted) else wanted
        walk.step(done)
        events.append(done)
    return tuple(events)


def mend(timetable, hold, guards=()):
    """As few READS as can be with which the TIMETABLE is safe, of several the least; None if there are none."""
    choices = _choices(timetable)
    most = len({time for time, _ in choices})
    for count in range(most + 1):
        for reads in _reads_of(choices, count):
            if _is_safe(with_reads(timetable, reads), hold, guards):
                return reads
    return None


def is_mend(timetable, hold, thing, guards=()):
    """Whether this is READS with which the TIMETABLE is safe."""
    return _is_reads(timetable, thing) and _is_safe(with_reads(timetable, thing), hold, guards)


def harms(timetable, hold, guards=()):
    """The ascending list of the pairs (time, reader): with just this read somebody may be wrong who may not be now."""
    known = may_pairs(timetable, hold, guards)
    found = []
    for choice in _choices(timetable):
        danger = may_pairs(with_reads(timetable, [choice]), hold, guards)
        if any([pair not in known for pair in danger]):
            found.append(choice)
    return found


def first_danger(timetable, hold, guards=()):
    """How many EVENTs the shortest part of the TIMETABLE has that is not safe, from the beginning on; None for none."""
    for count in range(len(timetable) + 1):
        # A guard that does not come in this part is nowhere in it, so it keeps nothing.
        if not _is_safe(timetable[:count], hold, guards):
            return count
    return None


def safe_copies(timetable, hold, guards=()):
    """The ascending list of the copies that are safe after no waits."""
    return [copy for copy in range(_copies_in(timetable)) if _is_safe_after(timetable, hold, copy, 0, guards)]


def usable_for(timetable, hold, copy, guards=()):
    """The greatest number of waits after which this copy is safe; -1 if there is none, None if it is after any."""
    if not 0 <= copy < _copies_in(timetable):
        raise NoCopy(copy)
    # After so many waits all marks have gone that ever go: more waits change nothing.
    for waits in range(hold + 1):
        if not _is_safe_after(timetable, hold, copy, waits, guards):
            return waits - 1
    return None


def _choices(timetable):
    """The ascending list of the pairs (time, reader) that may stand in READS."""
    walk = Walk()
    found = []
    for time, event in enumerate(timetable):
        if event[0] == "wait":
            found += [(time, reader) for reader in sorted(walk.seats)]
        walk.step(event)
    return found


def _reads_of(choices, count):
    """The ascending list of the READS with so many of these pairs."""
    if count == 0:
        return [()]
    found = []
    for time, reader in choices:
        later = [choice for choice in choices if choice[0] > time]
        found += [((time, reader),) + rest for rest in _reads_of(later, count - 1)]
    return found


def _is_reads(timetable, thing):
    """Whether this is READS of the TIMETABLE."""
    if not isinstance(thing, tuple):
        return False
    choices = _choices(timetable)
    earliest = 0
    for pair in thing:
        if not is_count_pair(pair) or pair not in choices or pair[0] < earliest:
            return False
        earliest = pair[0] + 1
    return True


def _is_safe(timetable, hold, guards):
    return len(may_pairs(timetable, hold, guards)) == 0


def _copies_in(timetable):
    """How many copies there are."""
    return len([event for event in timetable if event[0] == "save"])


def _is_safe_after(timetable, hold, copy, waits, guards):
    """Whether a new reader cannot be wrong that loads this copy behind so many waits, and then reads all."""
    reader = max(readers_of(timetable)) + 1
    longer = list(timetable) + [("wait",)] * waits + [("load", reader, copy)]
    walk = Walk()
    for event in longer:
        walk.step(event)
    last = ("read", reader, walk.total)
    if walk.fits(last):
        longer.append(last)
    return reader not in [who for who, _ in may_pairs(longer, hold, guards)]
