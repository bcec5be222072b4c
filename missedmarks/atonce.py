"""Who can be wrong at once: one row of SWEEPS must do for all of them."""

from missedmarks.data import entries, is_same, is_sweeps, parts_of
from missedmarks.errors import NoPair
from missedmarks.fates import Fates, Reading
from missedmarks.paths import pairs
from missedmarks.stairs import sweeps_under


class Crowd:
    """Pairs of a TIMETABLE, and who of them is wrong behind SWEEPS, all with a hold and GUARDS."""

    def __init__(self, timetable, hold, these, guards):
        self._fates = Fates(timetable, hold, guards)
        self._readings = [Reading(timetable, hold, reader, key, guards) for reader, key in these]
        self._free = sweeps_under(timetable, [])

    def places(self, sweeps):
        """For each pair the place of the value that it is wrong with behind these SWEEPS, -1 if it is not."""
        gone = self._fates.gone_times(sweeps)
        return [reading.held_of(gone) for reading in self._readings]

    def is_wrong(self, sweeps):
        """Whether all of them are wrong behind these SWEEPS."""
        return -1 not in self.places(sweeps)

    def stairs(self):
        """The greatest SWEEPS for each choice of a value for some of the pairs, each once."""
        found = {self._free: True}
        for reading in self._readings:
            bounds = reading.bounds()
            for sweeps in list(found):
                for bound in bounds:
                    found[_lowered(sweeps, bound)] = True
        return list(found)

    def wrong_stairs(self):
        """Those of the greatest SWEEPS behind which all of them are wrong."""
        return [sweeps for sweeps in self.stairs() if self.is_wrong(sweeps)]


def at_once(timetable, hold, these, guards=()):
    """Whether these pairs can be wrong at once."""
    return len(_crowd(timetable, hold, these, guards).wrong_stairs()) > 0


def sweeps_for(timetable, hold, these, guards=()):
    """SWEEPS with which these pairs are all wrong, None if there are none."""
    return fewest_sweeps(timetable, hold, these, guards)


def fewest_sweeps(timetable, hold, these, guards=()):
    """As few SWEEPS as can be with which these pairs are all wrong, None if there are none."""
    crowd = _crowd(timetable, hold, these, guards)
    rows = [_steps(sweeps) for sweeps in crowd.wrong_stairs()]
    longest = max([len(row) for row in rows], default=-1)
    for count in range(longest + 1):
        for row in rows:
            for sweeps in parts_of(row, count):
                if crowd.is_wrong(sweeps):
                    return sweeps
    return None


def shows_at_once(timetable, hold, these, thing, guards=()):
    """Whether this is SWEEPS with which these pairs are all wrong."""
    crowd = _crowd(timetable, hold, these, guards)
    return is_sweeps(timetable, thing) and crowd.is_wrong(thing)


def values_at_once(timetable, hold, these, guards=()):
    """The ascending list of the tuples of values that these pairs can have when they are all wrong."""
    crowd = _crowd(timetable, hold, these, guards)
    values = [value for _, _, value in entries(timetable)]
    rows = [crowd.places(sweeps) for sweeps in crowd.wrong_stairs()]
    return sorted({tuple([values[place] for place in row]) for row in rows})


def greatest_sets(timetable, hold, guards=()):
    """The SETs that can be wrong at once, but with no further pair, the longer ones first, then ascending."""
    known = pairs(timetable)
    crowd = Crowd(timetable, hold, known, guards)
    found = {}
    for sweeps in crowd.stairs():
        places = crowd.places(sweeps)
        found[tuple([pair for pair, place in zip(known, places) if place >= 0])] = True
    greatest = [some for some in found if not any([_is_within(some, more) and some != more for more in found])]
    return sorted(greatest, key=lambda some: (-len(some), some))


def most_at_once(timetable, hold, guards=()):
    """The least SET of as many pairs as can be wrong at once."""
    return greatest_sets(timetable, hold, guards)[0]


def knots(timetable, hold, guards=()):
    """The SETs that cannot be wrong at once, though with any one pair less they can; by length, then ascending."""
    known = pairs(timetable)
    greatest = greatest_sets(timetable, hold, guards)
    found = []
    for count in range(1, len(known) + 1):
        for some in parts_of(known, count):
            can = any([_is_within(some, more) for more in greatest])
            # With a smaller knot in it a SET cannot, but neither can it with some one pair less.
            if not can and not any([_is_within(knot, some) for knot in found]):
                found.append(some)
    return found


def is_knot(timetable, hold, thing, guards=()):
    """Whether this is a knot."""
    return any([is_same(thing, knot) for knot in knots(timetable, hold, guards)])


def _crowd(timetable, hold, these, guards):
    known = pairs(timetable)
    for reader, key in these:
        if (reader, key) not in known:
            raise NoPair(reader, key)
    return Crowd(timetable, hold, these, guards)


def _lowered(sweeps, bound):
    """The greatest SWEEPS that this bound lets, too."""
    latest, most = bound
    return tuple([(time, min(point, most) if time <= latest else point) for time, point in sweeps])


def _steps(sweeps):
    """Those of the greatest SWEEPS that go beyond all ahead of them: the others change nothing."""
    steps = []
    highest = 0
    for time, point in sweeps:
        if point > highest:
            steps.append((time, point))
            highest = point
    return steps


def _is_within(some, more):
    """Whether each pair of the one SET is in the other one, too."""
    return all([pair in more for pair in some])
