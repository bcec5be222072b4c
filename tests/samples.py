"""Values that several tests use."""

import random

LAG = (("put", "a", 1), ("join", 0), ("read", 0, 1), ("drop", "a"), ("put", "b", 2), ("read", 0, 3))
SLOW = LAG[:4] + (("wait",),) + LAG[4:]
BACK = (
    ("put", "a", 1), ("join", 0), ("read", 0, 1), ("save", 0),
    ("drop", "a"), ("read", 0, 2), ("load", 0, 0), ("read", 0, 2),
)
CROSS = (
    ("put", "a", 1), ("drop", "a"), ("put", "b", 2), ("join", 1), ("read", 1, 3), ("drop", "b"), ("read", 1, 4),
    ("join", 0), ("read", 0, 1), ("read", 0, 2),
)
# Reader 0 reads a value, saves, reads its mark, joins anew and reads half; readers 1 and 2 go on from copies,
# of which the second one is of a reader that had loaded the first one.
COPIES = (
    ("put", "a", 5), ("join", 0), ("read", 0, 1), ("save", 0), ("put", "b", 6), ("load", 1, 0), ("drop", "a"),
    ("read", 1, 2), ("save", 1), ("load", 2, 1), ("read", 0, 3), ("join", 0), ("read", 2, 3), ("read", 0, 1),
)

# Any two of (0, a), (0, c) and (1, c) can be wrong at once, but not all three.
TRIO = (
    ("put", "c", 0), ("put", "a", 1), ("put", "c", 0), ("drop", "a"), ("drop", "b"), ("drop", "c"), ("join", 1),
    ("join", 0), ("read", 0, 2), ("read", 0, 4), ("read", 1, 2), ("read", 0, 6), ("read", 1, 4), ("read", 1, 6),
)
# First the one is far behind, then the other one: both are needed.
IN_TURN = (
    ("put", "a", 1), ("join", 0), ("join", 1), ("read", 0, 1), ("read", 1, 1), ("drop", "a"), ("read", 1, 2),
    ("read", 0, 2), ("put", "b", 1), ("read", 0, 3), ("read", 1, 3), ("drop", "b"), ("read", 0, 4), ("read", 1, 4),
)
# Any two of three are enough: it takes three blocks to show that no single one is.
ANY_TWO = (
    ("put", "a", 1), ("join", 0), ("read", 0, 1), ("drop", "a"), ("join", 1), ("put", "b", 1), ("save", 1),
    ("read", 1, 2), ("read", 1, 3), ("drop", "b"), ("read", 0, 2), ("read", 0, 4), ("read", 1, 4),
)


def nested(bottom, depth, make):
    """The value `bottom` inside so many tuples or lists."""
    for _ in range(depth):
        bottom = make([bottom])
    return bottom


# Values of every kind that may be asked about; no EVENT, TIMETABLE, SWEEPS or GUARDS is among them.
ODD_THINGS = [
    0, 1, -1, 10 ** 30, True, False, None, "", "a", "wait", "put a 1", "-",
    [], [()], ((),), ([],), [["wait"]], (0,), (True,), (None,), ("",), ("a",), (("",),),
    ((0, 0), 1), ((0, True),), ((False, 0),), ((0, None),), (("0", 0),), ((0, "0"),), ((0,),), ((0, 0, 0),),
    ([0, 0],), [(0, 0)], ("copy", 0), ("reader", 0), (("copy",),), (("copy", True),), ((None, 0),), (([], 0),),
    nested((), 11, tuple), nested([], 11, list), nested("wait", 12, tuple), nested(None, 12, list),
]


def listed(thing):
    """The same value with lists for tuples, at any depth."""
    if isinstance(thing, (tuple, list)):
        return [listed(part) for part in thing]
    return thing


def tupled(thing):
    """The same value with tuples for lists, at any depth."""
    if isinstance(thing, (tuple, list)):
        return tuple(tupled(part) for part in thing)
    return thing


def random_timetable(seed, length, keys="ab", readers=3):
    """A TIMETABLE of so many EVENTs in which a good part of them are reads that lag."""
    rng = random.Random(seed)
    events, seats, saved, total = [], {}, [], 0
    while len(events) < length:
        word = rng.choice(("put", "drop", "drop", "join", "read", "read", "save", "load", "wait"))
        reader = rng.randrange(readers)
        if word == "put":
            events.append(("put", rng.choice(keys), rng.randrange(-2, 3)))
            total += 1
        elif word == "drop":
            events.append(("drop", rng.choice(keys)))
            total += 1
        elif word == "join":
            events.append(("join", reader))
            seats[reader] = 0
        elif word == "read" and seats.get(reader, total) < total:
            seats[reader] = rng.randint(seats[reader] + 1, total)
            events.append(("read", reader, seats[reader]))
        elif word == "save" and reader in seats:
            events.append(("save", reader))
            saved.append(seats[reader])
        elif word == "load" and saved:
            copy = rng.randrange(len(saved))
            events.append(("load", reader, copy))
            seats[reader] = saved[copy]
        elif word == "wait":
            events.append(("wait",))
    return tuple(events)


def random_sweeps(seed, timetable, count):
    """So many SWEEPS of the TIMETABLE."""
    rng = random.Random(seed)
    sweeps = []
    for time in sorted(rng.randint(0, len(timetable)) for _ in range(count)):
        total = sum(event[0] in ("put", "drop") for event in timetable[:time])
        sweeps.append((time, rng.randint(0, total)))
    return tuple(sweeps)


def random_guards(seed, copies=3, readers=3):
    """An ascending tuple of GUARDs, some of which may never come."""
    rng = random.Random(seed)
    known = [("copy", copy) for copy in range(copies)] + [("reader", reader) for reader in range(readers)]
    return tuple(guard for guard in known if rng.random() < 0.3)


def random_event(rng, keys, readers, seats, saved, total):
    """An EVENT that can come, or none, by weights that make readers lag."""
    word = rng.choices(("put", "drop", "join", "read", "save", "load", "wait"), (2, 2, 1, 4, 1, 1, 1))[0]
    reader = rng.randrange(readers)
    if word == "put":
        return word, rng.choice(keys), rng.randrange(2)
    if word == "drop":
        return word, rng.choice(keys)
    if word == "read" and seats.get(reader, total) < total:
        return word, reader, rng.randint(seats[reader] + 1, total)
    if word == "load" and saved:
        return word, reader, rng.randrange(len(saved))
    if word == "wait":
        return (word,)
    if word == "join" or (word == "save" and reader in seats):
        return word, reader
    return None


def lagging_timetable(seed, length, keys="ab", readers=3, most=8, copies=3):
    """A TIMETABLE of so many EVENTs at most: a value is read ahead of its mark, and two who lag read all at last."""
    rng = random.Random(seed)
    events, seats, saved, total = [], {}, [], 0
    start = [("put", "a", 1), ("join", 0), ("read", 0, 1)] + [("save", 0)] * rng.randrange(2) + [("drop", "a")]
    while len(events) < length - 2:
        event = start.pop(0) if start else random_event(rng, keys, readers, seats, saved, total)
        if event is None or (event[0] == "save" and len(saved) == copies):
            continue
        if event[0] in ("put", "drop"):
            if total == most:
                event = ("wait",)
            else:
                total += 1
        elif event[0] == "save":
            saved.append(seats[event[1]])
        elif event[0] == "join":
            seats[event[1]] = 0
        elif event[0] == "read":
            seats[event[1]] = event[2]
        elif event[0] == "load":
            seats[event[1]] = saved[event[2]]
        events.append(event)
    lagging = [reader for reader in seats if seats[reader] < total]
    return tuple(events) + tuple(("read", reader, total) for reader in lagging[:2])


def crossing_timetable(seed, length, keys="ab", readers=2, most=6):
    """A TIMETABLE of so many EVENTs at most in which readers go in steps over what was put long before: who wants one
    of them wrong must not sweep, who wants another one wrong must.
    """
    rng = random.Random(seed)
    events, seats, lasts = [], {}, {}
    for _ in range(most):
        key = rng.choice(keys)
        lasts[key] = rng.random() < 0.5
        events.append(("put", key, rng.randrange(3)) if lasts[key] else ("drop", key))
    for key in lasts:
        if lasts[key]:
            events[max(at for at, event in enumerate(events) if event[1] == key)] = ("drop", key)
    late = [events.pop() for _ in range(rng.randrange(3))]
    while len(events) < length:
        reader = rng.randrange(readers)
        total = sum(event[0] in ("put", "drop") for event in events)
        if late and rng.random() < 0.3:
            events.append(late.pop())
        elif reader not in seats:
            events.append(("join", reader))
            seats[reader] = 0
        elif seats[reader] < total:
            seats[reader] += rng.randint(1, min(2, total - seats[reader]))
            events.append(("read", reader, seats[reader]))
        elif not late and min(seats.values()) == total:
            break
    return tuple(events)
