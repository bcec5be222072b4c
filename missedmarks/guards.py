"""Which readers and copies must report how far they are, so that nothing can be wrong, and how long marks must stay."""

from missedmarks.data import guards_of, is_guards, parts_of
from missedmarks.paths import pairs
from missedmarks.wrongs import may_hold, may_pairs, safe_hold, story


def is_enough(timetable, hold, guards):
    """Whether with these GUARDS nobody can be wrong in the end."""
    return len(may_pairs(timetable, hold, guards)) == 0


def in_danger(timetable, hold, guards):
    """The ascending list of the pairs (reader, key) that can be wrong in the end with these GUARDS."""
    return may_pairs(timetable, hold, guards)


def against(timetable, hold, guards):
    """SWEEPS with which some reader is wrong in the end; None if the GUARDS are enough."""
    danger = may_pairs(timetable, hold, guards)
    if len(danger) == 0:
        return None
    reader, key = danger[0]
    place = may_hold(timetable, hold, reader, key, guards)[-1]
    return story(timetable, hold, reader, key, place, guards)


def fewest_guards(timetable, hold):
    """GUARDS that are enough, as few as can be, of several the least."""
    # Of the least ones, which come by their length, none is shorter than the first one.
    return least_sets(timetable, hold)[0]


def least_sets(timetable, hold):
    """The GUARDS that are enough and of which no smaller part is; by length, then ascending."""
    return _least(timetable, lambda guards: is_enough(timetable, hold, guards))


def vital(timetable, hold):
    """The ascending list of the GUARDs that are in all GUARDS that are enough."""
    sets = least_sets(timetable, hold)
    return [guard for guard in guards_of(timetable) if all([guard in guards for guards in sets])]


def of_use(timetable, hold):
    """The ascending list of the GUARDs that are in one of the least GUARDS that are enough, at least."""
    sets = least_sets(timetable, hold)
    return [guard for guard in guards_of(timetable) if any([guard in guards for guards in sets])]


def is_block(timetable, hold, thing):
    """Whether this is GUARDS without which all others together are not enough."""
    return is_guards(timetable, thing) and _blocks(timetable, hold, thing)


def blocks(timetable, hold):
    """The blocks of which no smaller part is one; by length, then ascending."""
    return _least(timetable, lambda guards: _blocks(timetable, hold, guards))


def paper(timetable, hold):
    """As few of the least blocks as can be that show the fewest GUARDs, of several the least, ascending."""
    known = sorted(blocks(timetable, hold))
    fewest = len(fewest_guards(timetable, hold))
    # All of them together show it: GUARDS that have one of each of them are enough.
    for count in range(len(known) + 1):
        for rows in parts_of(known, count):
            if _needs(timetable, rows, fewest):
                return rows
    return tuple(known)


def shows_fewest(timetable, hold, thing):
    """Whether this is a paper: an ascending tuple of blocks that no fewer GUARDs meet than must be."""
    if not isinstance(thing, tuple) or not all([is_block(timetable, hold, row) for row in thing]):
        return False
    if any([thing[at] <= thing[at - 1] for at in range(1, len(thing))]):
        return False
    return _needs(timetable, thing, len(fewest_guards(timetable, hold)))


def least_hold(timetable, guards=()):
    """The least hold with which these GUARDS are enough."""
    return max([safe_hold(timetable, reader, key, guards) for reader, key in pairs(timetable)], default=0)


def trade(timetable):
    """For each number of GUARDs the least hold with which some so many are enough."""
    known = guards_of(timetable)
    rows = [parts_of(known, count) for count in range(len(known) + 1)]
    return [min([least_hold(timetable, guards) for guards in row]) for row in rows]


def _least(timetable, test):
    """The GUARDS that pass this test and of which no smaller part does; by length, then ascending."""
    known = guards_of(timetable)
    found = []
    for count in range(len(known) + 1):
        for guards in parts_of(known, count):
            ahead = any([all([guard in guards for guard in less]) for less in found])
            if not ahead and test(guards):
                found.append(guards)
    return found


def _blocks(timetable, hold, guards):
    """Whether all other GUARDs together are not enough."""
    others = [guard for guard in guards_of(timetable) if guard not in guards]
    return not is_enough(timetable, hold, others)


def _needs(timetable, rows, fewest):
    """Whether only so many GUARDs, or more, have one of each of these blocks."""
    known = guards_of(timetable)
    for count in range(fewest):
        for guards in parts_of(known, count):
            if all([any([guard in row for guard in guards]) for row in rows]):
                return False
    return True
