"""Greatest sweeps: those that go as far as they can at each time, and who is wrong behind given sweeps."""

from missedmarks.data import totals_of
from missedmarks.log import run


def sweeps_under(timetable, bounds):
    """The SWEEPS with one sweep at each time, up to the greatest point that the bounds let."""
    sweeps = []
    for time, total in enumerate(totals_of(timetable)):
        points = [point for latest, point in bounds if time <= latest]
        sweeps.append((time, min([total] + points)))
    return tuple(sweeps)


def wrong_pairs(timetable, hold, sweeps, guards=()):
    """The ascending list of the pairs (reader, key) such that the reader is wrong at the key behind all."""
    log = run(timetable, hold, sweeps, guards)
    return [(reader, key) for reader in log.readers() for key in log.wrong(reader)]
