"""Values that several tests use."""

import random

LAG = (("put", "a", 1), ("join", 0), ("read", 0, 1), ("drop", "a"), ("put", "b", 2), ("read", 0, 3))
BACK = (
    ("put", "a", 1), ("join", 0), ("read", 0, 1), ("save", 0),
    ("drop", "a"), ("read", 0, 2), ("load", 0, 0), ("read", 0, 2),
)


def nested(bottom, depth, make):
    """The value `bottom` inside so many tuples or lists."""
    for _ in range(depth):
        bottom = make([bottom])
    return bottom


# Values of every kind that may be asked about; no EVENT, TIMETABLE, SWEEPS or GUARDS is among them.
ODD_THINGS = [
    0, 1, -1, 10 ** 30, True, False, None, "", "a", "wait", "put a 1", "-",
    [], [()], ((),), ([],), [["wait"]], (0,), (True,), (None,), ("",), ("a",), (("",),),
    ((0, 0), 1), ((0, True),), ((False, 0),), ((0, None),), (("0", 0),), ((0, "0"),), ((0,),), ((0, 0, 0),),
    ([0, 0],), [(0, 0)], ("copy", 0), ("reader", 0), (("copy",),), (("copy", True),), ((None, 0),), (([], 0),),
    nested((), 11, tuple), nested([], 11, list), nested("wait", 12, tuple), nested(None, 12, list),
]


def listed(thing):
    """The same value with lists for tuples, at any depth."""
    if isinstance(thing, (tuple, list)):
        return [listed(part) for part in thing]
    return thing


def tupled(thing):
    """The same value with tuples for lists, at any depth."""
    if isinstance(thing, (tuple, list)):
        return tuple(tupled(part) for part in thing)
    return thing


def random_timetable(seed, length, keys="ab", readers=3):
    """A TIMETABLE of so many EVENTs in which a good part of them are reads that lag."""
    rng = random.Random(seed)
    events, seats, saved, total = [], {}, [], 0
    while len(events) < length:
        word = rng.choice(("put", "drop", "drop", "join", "read", "read", "save", "load", "wait"))
        reader = rng.randrange(readers)
        if word == "put":
            events.append(("put", rng.choice(keys), rng.randrange(-2, 3)))
            total += 1
        elif word == "drop":
            events.append(("drop", rng.choice(keys)))
            total += 1
        elif word == "join":
            events.append(("join", reader))
            seats[reader] = 0
        elif word == "read" and seats.get(reader, total) < total:
            seats[reader] = rng.randint(seats[reader] + 1, total)
            events.append(("read", reader, seats[reader]))
        elif word == "save" and reader in seats:
            events.append(("save", reader))
            saved.append(seats[reader])
        elif word == "load" and saved:
            copy = rng.randrange(len(saved))
            events.append(("load", reader, copy))
            seats[reader] = saved[copy]
        elif word == "wait":
            events.append(("wait",))
    return tuple(events)


def random_sweeps(seed, timetable, count):
    """So many SWEEPS of the TIMETABLE."""
    rng = random.Random(seed)
    sweeps = []
    for time in sorted(rng.randint(0, len(timetable)) for _ in range(count)):
        total = sum(event[0] in ("put", "drop") for event in timetable[:time])
        sweeps.append((time, rng.randint(0, total)))
    return tuple(sweeps)


def random_guards(seed, copies=3, readers=3):
    """An ascending tuple of GUARDs, some of which may never come."""
    rng = random.Random(seed)
    known = [("copy", copy) for copy in range(copies)] + [("reader", reader) for reader in range(readers)]
    return tuple(guard for guard in known if rng.random() < 0.3)
