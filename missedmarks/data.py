"""EVENTs, TIMETABLEs, SWEEPS and GUARDs: which values are such, and what a TIMETABLE tells."""

LETTERS = "abcdefghijklmnopqrstuvwxyz"
LONGEST_KEY = 8


class Walk:
    """Where the readers are, and where the copies were saved, as EVENTs are done in turn."""

    def __init__(self):
        self.seats = {}
        self.saved = []
        self.total = 0

    def fits(self, event):
        """Whether this EVENT can come next."""
        match event:
            case ["read", reader, upto]:
                return reader in self.seats and self.seats[reader] < upto <= self.total
            case ["save", reader]:
                return reader in self.seats
            case ["load", _, copy]:
                return copy < len(self.saved)
        return True

    def step(self, event):
        """Go on behind this EVENT, which fits."""
        match event:
            case ["put", _, _]:
                self.total += 1
            case ["drop", _]:
                self.total += 1
            case ["join", reader]:
                self.seats[reader] = 0
            case ["read", reader, upto]:
                self.seats[reader] = upto
            case ["save", reader]:
                self.saved.append(self.seats[reader])
            case ["load", reader, copy]:
                self.seats[reader] = self.saved[copy]


def is_number(thing):
    """Whether this is a number: True and False are none."""
    return isinstance(thing, int) and not isinstance(thing, bool)


def is_count(thing):
    """Whether this is a number from 0."""
    return is_number(thing) and thing >= 0


def is_key(thing):
    """Whether this is a KEY."""
    if not isinstance(thing, str) or not 1 <= len(thing) <= LONGEST_KEY:
        return False
    return all([letter in LETTERS for letter in thing])


def is_event(thing):
    """Whether this is an EVENT, wherever it may come."""
    # A pattern takes lists for tuples, but a thing that is a list is no EVENT.
    if not isinstance(thing, tuple):
        return False
    match thing:
        case ("put", key, value):
            return is_key(key) and is_number(value)
        case ("drop", key):
            return is_key(key)
        case ("join", reader):
            return is_count(reader)
        case ("read", reader, upto):
            return is_count(reader) and is_count(upto)
        case ("save", reader):
            return is_count(reader)
        case ("load", reader, copy):
            return is_count(reader) and is_count(copy)
        case ("wait",):
            return True
    return False


def is_timetable(thing):
    """Whether this is a TIMETABLE: a tuple of EVENTs, each of which can come where it stands."""
    if not isinstance(thing, tuple):
        return False
    walk = Walk()
    for event in thing:
        if not is_event(event) or not walk.fits(event):
            return False
        walk.step(event)
    return True


def is_count_pair(thing):
    """Whether this is a pair of numbers from 0."""
    return isinstance(thing, tuple) and len(thing) == 2 and is_count(thing[0]) and is_count(thing[1])


def is_same(thing, wanted):
    """Whether this is just what is wanted, made of numbers, strings and tuples: True is no 1, a list no tuple."""
    if isinstance(wanted, tuple):
        if not isinstance(thing, tuple) or len(thing) != len(wanted):
            return False
        return all([is_same(part, other) for part, other in zip(thing, wanted)])
    return not isinstance(thing, bool) and thing == wanted


def parts_of(rows, count):
    """The list of the tuples of so many of these rows, each in the order of the rows, the first ones first."""
    if count == 0:
        return [()]
    found = []
    for at in range(len(rows)):
        found += [(rows[at],) + rest for rest in parts_of(rows[at + 1:], count - 1)]
    return found


def totals_of(timetable):
    """How many entries there are ahead of each EVENT, and at last behind all."""
    totals = [0]
    for event in timetable:
        totals.append(totals[-1] + (1 if event[0] in ("put", "drop") else 0))
    return totals


def is_sweeps(timetable, thing):
    """Whether this is SWEEPS of the TIMETABLE."""
    if not isinstance(thing, tuple):
        return False
    totals = totals_of(timetable)
    earliest = 0
    for sweep in thing:
        if not is_count_pair(sweep):
            return False
        time, point = sweep
        if not earliest <= time < len(totals) or point > totals[time]:
            return False
        earliest = time
    return True


def is_guards(timetable, thing):
    """Whether this is GUARDS of the TIMETABLE."""
    if not isinstance(thing, tuple):
        return False
    known = guards_of(timetable)
    for at, guard in enumerate(thing):
        # True counts as 1 where a list is searched, so the number is asked for, too.
        if guard not in known or not is_count(guard[1]):
            return False
        if at > 0 and guard <= thing[at - 1]:
            return False
    return True


def entries(timetable):
    """For each entry of the TIMETABLE the triple (time, key, value), value None for a mark."""
    found = []
    for time, event in enumerate(timetable):
        if event[0] == "put":
            found.append((time, event[1], event[2]))
        if event[0] == "drop":
            found.append((time, event[1], None))
    return found


def readers_of(timetable):
    """The ascending list of the readers that join or load in the TIMETABLE."""
    return sorted({event[1] for event in timetable if event[0] in ("join", "load")})


def guards_of(timetable):
    """The ascending list of all GUARDs of the TIMETABLE."""
    saves = [event for event in timetable if event[0] == "save"]
    copies = [("copy", copy) for copy in range(len(saves))]
    return copies + [("reader", reader) for reader in readers_of(timetable)]
