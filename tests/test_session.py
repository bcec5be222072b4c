"""[15]: sessions: drawn edits beside a new Session in the same state, what is refused, undo, twins."""

import random
import unittest

from missedmarks.atonce import most_at_once
from missedmarks.data import guards_of, is_timetable
from missedmarks.errors import NoEvent, NothingDone, Unfit
from missedmarks.log import Log, run
from missedmarks.mending import mend, safe_copies
from missedmarks.session import Session
from missedmarks.wrongs import may_pairs
from tests.samples import BACK, COPIES, CROSS, LAG, SLOW, lagging_timetable, listed, random_sweeps


def unfit(events):
    """The time of the first EVENT that cannot come there, None if all can."""
    for time in range(len(events)):
        if not is_timetable(tuple(events[:time + 1])):
            return time
    return None


class Model:
    """What the document says of a Session, kept as a list of all states."""

    def __init__(self, timetable, hold, guards):
        self.state = (tuple(timetable), hold, tuple(guards))
        self.states = []

    def edited(self, word, told):
        """The error that this edit raises, None if it is done."""
        events, hold, guards = self.state
        rows, many = list(events), len(events)
        if word == "undo":
            if not self.states:
                return NothingDone, {}
            self.state = self.states.pop()
            return None
        if word == "let":
            return self.keep((events, told[0], guards))
        if word == "set_guards":
            return self.keep((events, hold, tuple(tuple(guard) for guard in told[0])))
        if word == "add":
            rows.append(tuple(told[0]))
        else:
            last = {"insert": many, "drop": many - 1, "exchange": many - 2}[word]
            if not 0 <= told[0] <= last:
                return NoEvent, {"time": told[0]}
            if word == "insert":
                rows.insert(told[0], tuple(told[1]))
            if word == "drop":
                del rows[told[0]]
            if word == "exchange":
                rows[told[0]], rows[told[0] + 1] = rows[told[0] + 1], rows[told[0]]
        if unfit(rows) is not None:
            return Unfit, {"time": unfit(rows)}
        return self.keep((tuple(rows), hold, guards))

    def keep(self, state):
        self.states.append(self.state)
        self.state = state


def drawn_event(rng):
    return rng.choice((
        ("put", rng.choice("ab"), rng.randrange(-3, 3)), ("drop", rng.choice("ab")), ("join", rng.randrange(3)),
        ("wait",),
        ("read", rng.randrange(2), rng.randrange(6)), ("save", rng.randrange(2)),
        ("load", rng.randrange(3), rng.randrange(2)),
    ))


def drawn_guards(rng):
    known = [("copy", 0), ("copy", 1), ("copy", 5), ("reader", 0), ("reader", 1), ("reader", 9)]
    return tuple(guard for guard in known if rng.random() < 0.3)


def drawn_edit(rng, many):
    """An edit and its arguments, many of which are refused."""
    word = rng.choice(("add", "add", "insert", "drop", "exchange", "exchange", "let", "set_guards", "undo"))
    time = rng.randint(-2, many + 2)
    if word == "add":
        return word, (drawn_event(rng),)
    if word == "insert":
        return word, (time, drawn_event(rng))
    if word == "let":
        return word, (rng.randrange(5),)
    if word == "set_guards":
        return word, (drawn_guards(rng),)
    return word, (() if word == "undo" else (time,))


class Examples(unittest.TestCase):
    def test_of_the_document(self):
        s = Session(SLOW, 1, (("reader", 7),))
        self.assertEqual(
            (s.may(), s.mended(), s.guards(), s.let(3), s.may(), s.undo(), s.many(), len(s),
            s.after(((4, 2),)).wrong(0)),
            ([(0, "a")], ((4, 0),), (), None, [], None, 0, 7, ["a"]),
        )
        with self.assertRaises(Unfit) as caught:
            s.drop(3)
        self.assertEqual(vars(caught.exception), {"time": 5})


class Checks(unittest.TestCase):
    def same(self, session, timetable, hold, guards, many):
        """The Session answers as a new one in this state, and has so many undos."""
        known = tuple(guard for guard in guards if guard in guards_of(timetable))
        self.assertEqual((session.timetable(), session.hold(), session.guards()), (timetable, hold, known))
        self.assertEqual((session.many(), len(session), list(session)), (many, len(timetable), list(timetable)))
        self.assertEqual(session.may(), may_pairs(timetable, hold, known))
        self.assertEqual(session.most(), most_at_once(timetable, hold, known))
        self.assertEqual(session.usable(), safe_copies(timetable, hold, known))
        if sum(event[0] == "wait" for event in timetable) <= 3:
            self.assertEqual(session.mended(), mend(timetable, hold, known))
        sweeps = random_sweeps(many, timetable, 4)
        self.assertEqual(session.after(sweeps), run(timetable, hold, sweeps, known))
        fresh = Session(timetable, hold, guards)
        for call in ("timetable", "hold", "guards", "may", "most", "usable"):
            self.assertEqual(getattr(session, call)(), getattr(fresh, call)())


class DrawnEdits(Checks):
    def test_beside_a_model(self):
        done = {}
        for seed in range(80):
            rng = random.Random(seed)
            timetable = lagging_timetable(seed, rng.randrange(5, 11), "ab", 2, 5, 2)
            guards = drawn_guards(rng)
            session, model = Session(timetable, seed % 4, guards), Model(timetable, seed % 4, guards)
            for _ in range(30):
                word, told = drawn_edit(rng, len(session))
                wanted = model.edited(word, told)
                told = listed(told) if rng.random() < 0.3 else told
                if wanted is None:
                    self.assertIsNone(getattr(session, word)(*told))
                else:
                    with self.assertRaises(wanted[0]) as caught:
                        getattr(session, word)(*told)
                    self.assertEqual(vars(caught.exception), wanted[1])
                done[word, wanted and wanted[0]] = done.get((word, wanted and wanted[0]), 0) + 1
                self.same(session, *model.state, len(model.states))
        wanted = [("undo", NothingDone), ("drop", NoEvent), ("insert", NoEvent), ("exchange", NoEvent), ("add", Unfit)]
        wanted += [("drop", Unfit), ("insert", Unfit), ("exchange", Unfit), ("set_guards", None), ("let", None)]
        wanted += [(word, None) for word in ("add", "insert", "drop", "exchange", "undo")]
        self.assertEqual(set(done), set(wanted))
        self.assertGreater(min(done.values()), 3)

    def test_all_taken_back(self):
        for seed in range(40):
            rng = random.Random(seed)
            timetable = lagging_timetable(seed, 8, "ab", 2)
            session, states = Session(timetable, 1), [(timetable, 1, ())]
            model = Model(timetable, 1, ())
            while len(model.states) < 12:
                word, told = drawn_edit(rng, len(session))
                if word != "undo" and model.edited(word, told) is None:
                    getattr(session, word)(*told)
                    states.append(model.state)
            for many in reversed(range(12)):
                session.undo()
                self.same(session, *states[many], many)
            self.assertRaises(NothingDone, session.undo)
            self.same(session, timetable, 1, (), 0)


class Edits(Checks):
    def fails(self, error, wanted, call, *arguments, **named):
        with self.assertRaises(error) as caught:
            call(*arguments, **named)
        self.assertEqual(vars(caught.exception), wanted)

    def test_times(self):
        session = Session(LAG, 1)
        for time in (-1, -6, 6, 7, 10 ** 9):
            self.fails(NoEvent, {"time": time}, session.drop, time)
            self.fails(NoEvent, {"time": time}, session.exchange, time)
        for time in (-1, -7, 7, 10 ** 9):
            self.fails(NoEvent, {"time": time}, session.insert, time, ("wait",))
            # A time that is none comes ahead of an EVENT that cannot come.
            self.fails(NoEvent, {"time": time}, session.insert, time, ("save", 9))
        self.fails(NoEvent, {"time": 5}, session.exchange, 5)
        self.same(session, LAG, 1, (), 0)
        session.insert(6, ("wait",))
        session.insert(0, ("wait",))
        self.same(session, (("wait",),) + LAG + (("wait",),), 1, (), 2)

    def test_without_events(self):
        session = Session((), 0)
        for call in (session.drop, session.exchange):
            self.fails(NoEvent, {"time": 0}, call, 0)
        self.fails(NothingDone, {}, session.undo)
        self.fails(Unfit, {"time": 0}, session.add, ("save", 0))
        self.fails(Unfit, {"time": 0}, session.insert, 0, ("read", 0, 1))
        self.same(session, (), 0, (), 0)
        session.insert(0, ("join", 0))
        self.same(session, (("join", 0),), 0, (), 1)

    def test_the_first_that_cannot_come(self):
        session = Session(COPIES, 1)
        for call, told, time in (
            (session.drop, (1,), 1), (session.drop, (0,), 1), (session.drop, (3,), 4), (session.drop, (5,), 6),
            (session.drop, (8,), 8), (session.exchange, (0,), None), (session.exchange, (1,), 1),
            (session.exchange, (2,), None),
            (session.insert, (0, ("load", 1, 0)), 0), (session.insert, (14, ("read", 0, 1)), 14),
            (session.add, (("save", 9),), 14),
            (session.insert, (2, ("read", 0, 1)), 3), (session.insert, (13, ("read", 0, 3)), 14),
        ):
            twin = list(COPIES)
            if call == session.drop:
                del twin[told[0]]
            elif call == session.exchange:
                twin[told[0]:told[0] + 2] = twin[told[0]:told[0] + 2][::-1]
            else:
                twin.insert(*(told if len(told) == 2 else (14, told[0])))
            wanted = unfit(twin)
            if time is not None:
                self.assertEqual(wanted, time)
            if wanted is None:
                call(*told)
                session.undo()
            else:
                self.fails(Unfit, {"time": wanted}, call, *told)
            self.same(session, COPIES, 1, (), 0)

    def test_an_edit_that_changes_nothing_is_one(self):
        session = Session(SLOW, 2, (("reader", 0),))
        session.let(2)
        session.set_guards((("reader", 0),))
        waits = Session((("wait",), ("wait",)), 0)
        waits.exchange(0)
        self.same(session, SLOW, 2, (("reader", 0),), 2)
        self.same(waits, (("wait",), ("wait",)), 0, (), 1)
        for again in (session, session, waits):
            again.undo()
        self.same(session, SLOW, 2, (("reader", 0),), 0)
        self.fails(NothingDone, {}, session.undo)
        self.fails(NothingDone, {}, waits.undo)

    def test_a_refused_edit_is_not_undone(self):
        session = Session(SLOW, 1)
        session.let(3)
        self.fails(Unfit, {"time": 5}, session.drop, 3)
        self.fails(NoEvent, {"time": 99}, session.drop, 99)
        self.same(session, SLOW, 3, (), 1)
        session.undo()
        self.same(session, SLOW, 1, (), 0)

    def test_guards_that_come_and_go(self):
        guards = (("copy", 0), ("reader", 0), ("reader", 7))
        session = Session(SLOW, 0, guards)
        self.same(session, SLOW, 0, guards, 0)
        self.assertEqual(session.guards(), (("reader", 0),))
        session.add(("save", 0))
        self.assertEqual(session.guards(), (("copy", 0), ("reader", 0)))
        session.add(("load", 7, 0))
        self.assertEqual(session.guards(), guards)
        session.undo()
        session.undo()
        self.same(session, SLOW, 0, guards, 0)
        session.set_guards([])
        self.assertEqual((session.guards(), session.may()), ((), [(0, "a")]))
        session.undo()
        self.assertEqual((session.guards(), session.may()), ((("reader", 0),), []))

    def test_by_name(self):
        session = Session(guards=[["reader", 0]], hold=1, timetable=listed(LAG))
        session.add(event=["wait"])
        session.insert(event=["wait"], time=0)
        session.drop(time=0)
        session.let(hold=2)
        session.exchange(time=0)
        session.undo()
        session.set_guards(guards=[])
        self.same(session, LAG + (("wait",),), 2, (), 5)
        self.assertEqual(session.after(sweeps=[[4, 2]]), run(LAG + (("wait",),), 2, ((4, 2),)))
        self.fails(NoEvent, {"time": 7}, session.exchange, time=7)


class OwnThings(Checks):
    def test_what_was_handed_in_is_changed_behind(self):
        timetable, guards, event = listed(LAG), [["reader", 0]], ["put", "a", 1]
        session = Session(timetable, 1, guards)
        session.add(event)
        session.insert(7, event)
        event[2] = 5
        timetable[0][1] = "zz"
        timetable.clear()
        guards[0][1] = 9
        wanted = LAG + (("put", "a", 1),) * 2
        self.same(session, wanted, 1, (("reader", 0),), 2)
        guards[0][1] = 0
        session.set_guards(guards)
        guards.clear()
        self.same(session, wanted, 1, (("reader", 0),), 3)

    def test_what_was_told_is_the_callers(self):
        session = Session(BACK, 0, (("reader", 0),))
        for call in (session.may, session.usable):
            kept = call()
            call().append(None)
            self.assertEqual(call(), kept)
        log = session.after(())
        log.wait()
        log.sweep(1)
        self.assertEqual(session.after(()), run(BACK, 0, (), (("reader", 0),)))
        rows = list(session)
        rows.clear()
        self.same(session, BACK, 0, (("reader", 0),), 0)

    def test_kinds(self):
        session = Session(listed(SLOW), 1, [["reader", 7], ["reader", 8]])
        self.assertIs(session.timetable().__class__, tuple)
        self.assertTrue(all(event.__class__ is tuple for event in session.timetable()))
        self.assertTrue(all(event.__class__ is tuple for event in session))
        self.assertIs(session.guards().__class__, tuple)
        session.set_guards([["reader", 0]])
        self.assertEqual(session.guards(), (("reader", 0),))
        self.assertIs(session.after(()).__class__, Log)
        self.assertIs(is_timetable(session.timetable()), True)
        self.assertEqual([event for event in session], list(SLOW))
        self.assertIn(("wait",), session)
        self.assertEqual(dict(enumerate(session))[4], ("wait",))

    def test_what_is_asked_is_no_edit(self):
        session = Session(CROSS, 0)
        for call in (session.may, session.most, session.mended, session.usable, session.timetable, session.hold,
                     session.guards, session.many, session.twin):
            call()
            self.same(session, CROSS, 0, (), 0)
        session.after(((9, 2),))
        self.same(session, CROSS, 0, (), 0)


class Twins(Checks):
    def test_a_twin_edited_alone(self):
        for seed in range(40):
            rng = random.Random(seed)
            timetable = lagging_timetable(seed, 8, "ab", 2)
            one, model = Session(timetable, 1), Model(timetable, 1, ())
            self.edit(rng, one, model, 6)
            other, second = one.twin(), Model(*model.state)
            second.states = list(model.states)
            self.same(other, *second.state, len(second.states))
            self.edit(rng, other, second, 10)
            self.same(one, *model.state, len(model.states))
            self.edit(rng, one, model, 10)
            self.same(other, *second.state, len(second.states))
            while second.states:
                second.edited("undo", ())
                other.undo()
                self.same(other, *second.state, len(second.states))
            self.same(one, *model.state, len(model.states))

    def edit(self, rng, session, model, count):
        for _ in range(count):
            word, told = drawn_edit(rng, len(session))
            if model.edited(word, told) is None:
                getattr(session, word)(*told)
            else:
                self.assertRaises((NoEvent, Unfit, NothingDone), getattr(session, word), *told)
