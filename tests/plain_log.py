"""What the document says of a Log, asked anew of all that was done: slow, and without any state."""


class PlainLog:
    """All that was done, in order: EVENTs, and sweeps as ("sweep", point).

    A moment is the number of things done so far.
    """

    def __init__(self, hold, guards=()):
        self.hold = hold
        self.guards = tuple(guards)
        self.done = []
        self.memory = {}

    def do(self, deed):
        self.done.append(deed)

    def end(self):
        return len(self.done)

    def time(self, moment):
        return sum(deed[0] != "sweep" for deed in self.done[:moment])

    def entries(self, moment):
        deeds = [deed for deed in self.done[:moment] if deed[0] in ("put", "drop")]
        return [(deed[1], deed[2] if deed[0] == "put" else None) for deed in deeds]

    def saves(self, moment):
        """The moments ahead of the saves."""
        return [at for at in range(moment) if self.done[at][0] == "save"]

    def last_of(self, reader, moment):
        """The moment ahead of the last join, read or load of this reader, None if there is none."""
        for at in reversed(range(moment)):
            if self.done[at][0] in ("join", "read", "load") and self.done[at][1] == reader:
                return at
        return None

    def seat(self, reader, moment):
        at = self.last_of(reader, moment)
        if at is None or self.done[at][0] == "join":
            return None if at is None else 0
        if self.done[at][0] == "read":
            return self.done[at][2]
        return self.copy_seat(self.done[at][2], moment)

    def copy_seat(self, copy, moment):
        saves = self.saves(moment)
        if copy >= len(saves):
            return None
        return self.seat(self.done[saves[copy]][1], saves[copy])

    def guard_seat(self, guard, moment):
        return self.seat(guard[1], moment) if guard[0] == "reader" else self.copy_seat(guard[1], moment)

    def covered_at(self, place, moment):
        """The time of the first sweep beyond this place, None if there is none."""
        for at in range(moment):
            if self.done[at][0] == "sweep" and self.done[at][1] > place:
                return self.time(at)
        return None

    def goes_at(self, place, moment):
        """Whether, by what was done last ahead of this moment, the entry goes (if it was there)."""
        key, value = self.entries(moment)[place]
        deed = self.done[moment - 1]
        if deed[0] == "sweep" and any(name == key for name, _ in self.entries(moment)[place + 1:deed[1]]):
            return True
        since = self.covered_at(place, moment)
        if value is not None or since is None or self.time(moment) - since < self.hold:
            return False
        seats = [self.guard_seat(guard, moment) for guard in self.guards]
        return all(place < seat for seat in seats if seat is not None)

    def gone(self, place, moment):
        if len(self.entries(moment)) <= place:
            return False
        if (place, moment) not in self.memory:
            self.memory[place, moment] = self.goes_at(place, moment) or self.gone(place, moment - 1)
        return self.memory[place, moment]

    def there(self, moment):
        rows = [(place, key, value) for place, (key, value) in enumerate(self.entries(moment))]
        return [row for row in rows if not self.gone(row[0], moment)]

    def got(self, at):
        """What the read that was done behind this moment got."""
        _, reader, upto = self.done[at]
        return [row for row in self.there(at) if self.seat(reader, at) <= row[0] < upto]

    def table(self, reader, moment):
        at = self.last_of(reader, moment)
        if self.done[at][0] == "join":
            return {}
        if self.done[at][0] == "load":
            save = self.saves(moment)[self.done[at][2]]
            return self.table(self.done[save][1], save)
        table = dict(self.table(reader, at))
        for _, key, value in self.got(at):
            table[key] = value
        return {key: value for key, value in table.items() if value is not None}

    def readers(self, moment):
        return sorted({deed[1] for deed in self.done[:moment] if deed[0] in ("join", "load")})

    def copies(self, moment):
        told = []
        for at in self.saves(moment):
            reader = self.done[at][1]
            told.append((self.seat(reader, at), tuple(sorted(self.table(reader, at).items()))))
        return told

    def last(self, key, moment):
        places = [place for place, (name, _) in enumerate(self.entries(moment)) if name == key]
        return places[-1] if places else None

    def wrong(self, reader, moment):
        found = []
        for key in sorted(self.table(reader, moment)):
            place = self.last(key, moment)
            if place < self.seat(reader, moment) and self.entries(moment)[place][1] is None:
                found.append(key)
        return found

    def answer(self):
        """What the method returns that did what was done last."""
        at = self.end() - 1
        word = self.done[at][0]
        if word in ("put", "drop"):
            return len(self.entries(at))
        if word == "read":
            return self.got(at)
        if word == "save":
            return len(self.saves(at))
        if word == "sweep":
            return [place for place in range(len(self.entries(at))) if self.gone(place, at + 1) > self.gone(place, at)]
        return None
