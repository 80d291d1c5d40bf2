"""Points 29 to 33: machines, steps, waiting, deadlocks, and steps that are attempted together."""

import itertools
import random
import unittest

from heldcalls.errors import HeldError, MustWait, NoName, NoThread, Refused, WrongMove
from heldcalls.library import Library
from heldcalls.machine import Machine
from heldcalls.threads import Thread, play
from tests.moves import next_moves, start_state
from tests.support import dense_text, raised, random_text, text_of
from tests.test_threads import told as told_of_thread

CROSS = text_of("lock a", "lock b", "routine left", "acquire a", "acquire b", "release b", "release a", "end",
                "routine right", "acquire b", "acquire a", "release a", "release b", "end",
                "routine twice", "acquire a", "acquire a", "release a", "release a", "end", "routine free", "end",
                "entry left", "entry right", "entry twice")
BEGIN = [(0, ("start", "left")), (1, ("start", "right")), (0, ("acquire", "a")), (1, ("acquire", "b"))]


def told(machine):
    """Returns all that the machine tells."""
    many = len(machine)
    return (many, machine.steps, machine.deadlock(), [machine.moves(thread) for thread in range(many)],
            [machine.waits_for(thread) for thread in range(many)],
            [told_of_thread(machine.state_of(thread)) for thread in range(many)])


def machine_after(steps, *, text=CROSS, reentrant=True):
    machine = Machine(Library.read(text), reentrant=reentrant)
    for thread, move in steps:
        machine.step(thread, move)
    return machine


class PlainMachine:
    """A machine by the words of the points: states as in moves.py, everything looked up each time."""

    def __init__(self, library, reentrant):
        self.library = library
        self.reentrant = reentrant
        self.states = []
        self.runs = []

    def holder(self, lock):
        holders = [thread for thread, (_, held, _) in enumerate(self.states) if lock in held]
        assert len(holders) <= 1
        return holders[0] if holders else None

    def waits_for(self, thread):
        moves = [move for move, _ in next_moves(self.library, self.states[thread])]
        if not moves or moves[0][0] != "acquire":
            return None
        blocker = self.holder(moves[0][1])
        return None if blocker == thread and self.reentrant else blocker

    def deadlocks(self):
        """All deadlocks, each begun with its least number."""
        found = set()
        for first in range(len(self.states)):
            row = [first]
            while self.waits_for(row[-1]) is not None and self.waits_for(row[-1]) not in row:
                row.append(self.waits_for(row[-1]))
            if self.waits_for(row[-1]) is not None:
                circle = row[row.index(self.waits_for(row[-1])):]
                least = circle.index(min(circle))
                found.add(tuple(circle[least:] + circle[:least]))
        return sorted(found)

    def outcome(self, thread, move):
        """Makes the step and returns None, or returns the class of its error and the error's fields."""
        word, name = move
        if word == "start":
            if thread != len(self.states):
                return NoThread, {"thread": thread}
            if name not in self.library.entries:
                return NoName, {"name": name}
            self.states.append(start_state(name))
            self.runs.append([move])
            return None
        if thread not in range(len(self.states)):
            return NoThread, {"thread": thread}
        ways = dict(next_moves(self.library, self.states[thread]))
        if move not in ways:
            return WrongMove, {"move": move}
        if word == "acquire" and self.waits_for(thread) is not None:
            return MustWait, {"lock": name, "blocker": self.waits_for(thread)}
        self.states[thread] = ways[move]
        self.runs[thread].append(move)
        return None


class TestWithoutThreads(unittest.TestCase):
    def test_a_new_machine(self):
        for reentrant in (True, False):
            for text in ("", CROSS):
                machine = Machine(Library.read(text), reentrant=reentrant)
                self.assertEqual(told(machine), (0, (), (), [], [], []))
                self.assertEqual([type(machine.steps), type(machine.deadlock())], [tuple, tuple])

    def test_reentrant_is_given_by_its_name_or_not_at_all(self):
        with self.assertRaises(TypeError):
            Machine(Library.read(""), True)
        for machine, blocker in ((Machine(Library.read(CROSS)), None),
                                 (Machine(Library.read(CROSS), reentrant=True), None),
                                 (Machine(Library.read(CROSS), reentrant=False), 0)):
            machine.attempt([(0, ("start", "twice")), (0, ("acquire", "a"))])
            self.assertEqual(machine.waits_for(0), blocker)

    def test_no_thread_has_a_number(self):
        machine = Machine(Library.read(CROSS))
        for number in (0, 1, -1, 60):
            for function in (machine.moves, machine.state_of, machine.waits_for):
                self.assertEqual(raised(NoThread, function, number), {"thread": number})

    def test_steps_cannot_be_assigned(self):
        with self.assertRaises(AttributeError):
            Machine(Library.read("")).steps = ()


class TestStart(unittest.TestCase):
    def test_numbers_in_the_order_of_the_starts(self):
        machine = Machine(Library.read(CROSS))
        self.assertEqual([machine.start("right"), machine.start("left"), machine.start("right")], [0, 1, 2])
        self.assertEqual(len(machine), 3)
        self.assertEqual(machine.steps, ((0, ("start", "right")), (1, ("start", "left")), (2, ("start", "right"))))
        self.assertEqual([machine.state_of(number).frames for number in range(3)],
                         [(("right", 0),), (("left", 0),), (("right", 0),)])

    def test_between_other_steps(self):
        machine = machine_after(BEGIN)
        self.assertEqual(machine.start("twice"), 2)
        self.assertIsNone(machine.step(3, ("start", "left")))
        self.assertEqual([len(machine), machine.steps[4:]], [4, ((2, ("start", "twice")), (3, ("start", "left")))])

    def test_what_is_not_an_entry(self):
        machine = machine_after(BEGIN)
        before = told(machine)
        for name in ("free", "a", "none", ""):
            self.assertEqual(raised(NoName, machine.start, name), {"name": name})
            self.assertEqual(raised(NoName, machine.step, 2, ("start", name)), {"name": name})
        self.assertEqual(told(machine), before)

    def test_the_very_next_number(self):
        machine = machine_after(BEGIN)
        before = told(machine)
        for number in (0, 1, 3, 4, -1, -2, 100):
            for name in ("left", "none"):
                self.assertEqual(raised(NoThread, machine.step, number, ("start", name)), {"thread": number})
        self.assertEqual(told(machine), before)
        machine.step(2, ("start", "left"))
        self.assertEqual(len(machine), 3)

    def test_many_threads(self):
        machine = Machine(Library.read(CROSS))
        self.assertEqual([machine.start("left") for _ in range(60)], list(range(60)))
        machine.step(59, ("acquire", "a"))
        self.assertEqual([machine.waits_for(number) for number in range(60)], [59] * 59 + [None])


class TestStep(unittest.TestCase):
    def test_steps_and_states(self):
        machine = machine_after(BEGIN)
        self.assertEqual(machine.steps, tuple(BEGIN))
        self.assertEqual({type(step) for step in machine.steps}, {tuple})
        self.assertEqual([machine.state_of(number).held for number in (0, 1)], [("a",), ("b",)])
        self.assertEqual([machine.moves(0), machine.moves(1)], [(("acquire", "b"),), (("acquire", "a"),)])

    def test_errors_in_their_order(self):
        machine = machine_after(BEGIN)
        before = told(machine)
        for number in (2, 3, -1, -2, 60):
            for move in (("acquire", "b"), ("none", "none"), ("release", "a")):
                self.assertEqual(raised(NoThread, machine.step, number, move), {"thread": number})
        for move in (("acquire", "a"), ("release", "a"), ("acquire", "none"), ("return", "left"), ("none", "none"),
                     ("maybe", "b")):
            self.assertEqual(raised(WrongMove, machine.step, 0, move), {"move": move})
        self.assertEqual(raised(MustWait, machine.step, 0, ("acquire", "b")), {"lock": "b", "blocker": 1})
        self.assertEqual(raised(MustWait, machine.step, 1, ("acquire", "a")), {"lock": "a", "blocker": 0})
        self.assertEqual(told(machine), before)

    def test_a_thread_that_has_ended(self):
        machine = Machine(Library.read("routine r\nend\nentry r"))
        machine.start("r")
        machine.step(0, ("return", "r"))
        self.assertEqual([machine.moves(0), machine.waits_for(0), machine.state_of(0).ended], [(), None, True])
        for move in (("return", "r"), ("call", "r")):
            self.assertEqual(raised(WrongMove, machine.step, 0, move), {"move": move})
        self.assertEqual(raised(NoThread, machine.step, 0, ("start", "r")), {"thread": 0})
        self.assertEqual(machine.start("r"), 1)

    def test_a_release_lets_another_thread_go_on(self):
        machine = machine_after([(0, ("start", "left")), (1, ("start", "left")), (0, ("acquire", "a")),
                                 (0, ("acquire", "b"))])
        self.assertEqual(raised(MustWait, machine.step, 1, ("acquire", "a")), {"lock": "a", "blocker": 0})
        machine.step(0, ("release", "b"))
        self.assertEqual([machine.holder("a"), machine.holder("b")], [0, None])
        self.assertEqual(raised(MustWait, machine.step, 1, ("acquire", "a")), {"lock": "a", "blocker": 0})
        machine.step(0, ("release", "a"))
        self.assertEqual([machine.holder("a"), machine.waits_for(1)], [None, None])
        machine.step(1, ("acquire", "a"))
        self.assertEqual(machine.holder("a"), 1)

    def test_what_was_read_earlier_stays(self):
        machine = Machine(Library.read(CROSS))
        earlier = []
        for thread, move in BEGIN:
            machine.step(thread, move)
            earlier.append(machine.steps)
        self.assertEqual(earlier, [tuple(BEGIN[:many]) for many in range(1, 5)])


class TestKinds(unittest.TestCase):
    def test_a_lock_may_be_acquired_again_on_a_reentrant_machine(self):
        machine = machine_after([(0, ("start", "twice")), (0, ("acquire", "a"))])
        self.assertEqual([machine.waits_for(0), machine.deadlock()], [None, ()])
        machine.step(0, ("acquire", "a"))
        machine.step(0, ("release", "a"))
        self.assertEqual([machine.holder("a"), machine.state_of(0).held], [0, ("a",)])
        machine.start("left")
        self.assertEqual(raised(MustWait, machine.step, 1, ("acquire", "a")), {"lock": "a", "blocker": 0})
        machine.step(0, ("release", "a"))
        self.assertIsNone(machine.holder("a"))
        machine.step(1, ("acquire", "a"))

    def test_on_the_other_kind_a_thread_waits_for_itself(self):
        machine = machine_after([(0, ("start", "left")), (1, ("start", "twice")), (1, ("acquire", "a"))],
                                reentrant=False)
        self.assertEqual([machine.waits_for(0), machine.waits_for(1)], [1, 1])
        self.assertEqual(machine.deadlock(), (1,))
        self.assertEqual(machine.moves(1), (("acquire", "a"),))
        before = told(machine)
        self.assertEqual(raised(MustWait, machine.step, 1, ("acquire", "a")), {"lock": "a", "blocker": 1})
        self.assertEqual(raised(MustWait, machine.step, 0, ("acquire", "a")), {"lock": "a", "blocker": 1})
        self.assertEqual(told(machine), before)

    def test_thread_zero_waits_for_itself(self):
        machine = machine_after([(0, ("start", "twice")), (0, ("acquire", "a"))], reentrant=False)
        self.assertEqual([machine.waits_for(0), machine.deadlock()], [0, (0,)])
        self.assertIs(type(machine.waits_for(0)), int)

    def test_the_kind_stays_with_duplicates_and_attempts(self):
        for reentrant in (True, False):
            machine = Machine(Library.read(CROSS), reentrant=reentrant)
            machine.attempt([(0, ("start", "twice")), (0, ("acquire", "a"))])
            for each in (machine, machine.duplicate(), machine.duplicate().duplicate()):
                self.assertEqual(each.waits_for(0), None if reentrant else 0)


class TestHolder(unittest.TestCase):
    def test_holder(self):
        machine = machine_after(BEGIN)
        self.assertEqual([machine.holder("a"), machine.holder("b")], [0, 1])
        self.assertEqual([Machine(Library.read(CROSS)).holder(lock) for lock in "ab"], [None, None])

    def test_no_such_lock(self):
        machine = machine_after(BEGIN)
        for name in ("left", "none", "", "c"):
            self.assertEqual(raised(NoName, machine.holder, name), {"name": name})
        self.assertEqual(raised(NoName, Machine(Library.read("")).holder, "a"), {"name": "a"})


class TestDeadlock(unittest.TestCase):
    text = text_of("lock a", "lock b", "lock c", "lock d", "lock e",
                   *itertools.chain(*([f"routine {name}", f"acquire {one}", f"acquire {two}", f"release {two}",
                                       f"release {one}", "end"]
                                      for name, one, two in (("p", "a", "b"), ("q", "b", "c"), ("r", "c", "a"),
                                                             ("s", "d", "e"), ("t", "e", "d")))),
                   "entry p", "entry q", "entry r", "entry s", "entry t")

    def deadlock_of(self, entries):
        """Starts the threads, lets each one acquire its first lock if it can, and tells the deadlock."""
        machine = Machine(Library.read(self.text))
        for entry in entries:
            machine.start(entry)
        for thread in range(len(entries)):
            if machine.waits_for(thread) is None:
                machine.step(thread, machine.moves(thread)[0])
        return machine.deadlock()

    def test_none(self):
        for entries in ("", "p", "pq", "pp", "ppp", "pqs", "pqqs"):
            self.assertEqual(self.deadlock_of(entries), ())

    def test_each_waits_for_the_next_one(self):
        for entries, expected in (("pqr", (0, 1, 2)), ("prq", (0, 2, 1)), ("rpq", (0, 1, 2)), ("qpr", (0, 2, 1)),
                                  ("st", (0, 1)), ("ts", (0, 1))):
            self.assertEqual(self.deadlock_of(entries), expected)

    def test_threads_that_only_wait_for_a_deadlock_are_not_in_it(self):
        self.assertEqual(self.deadlock_of("pprqr"), (0, 3, 2))
        self.assertEqual(self.deadlock_of("stst"), (0, 1))
        machine = machine_after([(0, ("start", "left")), (1, ("start", "left")), (2, ("start", "right")),
                                 (1, ("acquire", "a")), (2, ("acquire", "b"))])
        self.assertEqual([machine.waits_for(0), machine.deadlock()], [1, (1, 2)])

    def test_of_two_deadlocks_the_one_with_the_least_number(self):
        self.assertEqual(self.deadlock_of("spqrt"), (0, 4))
        self.assertEqual(self.deadlock_of("pstqr"), (0, 3, 4))
        self.assertEqual(self.deadlock_of("qtsrp"), (0, 3, 4))
        machine = machine_after([
            (0, ("start", "left")), (1, ("start", "right")), (2, ("start", "alone")), (0, ("acquire", "a")),
            (1, ("acquire", "b")), (2, ("acquire", "c"))], reentrant=False,
            text=CROSS.replace("lock b\n", "lock b\nlock c\n").replace(
                "routine free", "routine alone\nacquire c\nacquire c\nrelease c\nrelease c\nend\nroutine free")
            + "\nentry alone")
        self.assertEqual(machine.deadlock(), (0, 1))


class TestAttempt(unittest.TestCase):
    def test_all_of_them(self):
        for steps in (BEGIN, tuple(BEGIN)):
            machine = Machine(Library.read(CROSS))
            self.assertIsNone(machine.attempt(steps))
            self.assertEqual(told(machine), told(machine_after(BEGIN)))
            self.assertEqual([machine.holder("a"), machine.holder("b")], [0, 1])

    def test_no_steps(self):
        machine = machine_after(BEGIN)
        for steps in ([], ()):
            self.assertIsNone(machine.attempt(steps))
        self.assertEqual(told(machine), told(machine_after(BEGIN)))

    def test_on_from_a_state(self):
        machine = machine_after(BEGIN[:2])
        machine.attempt(BEGIN[2:])
        self.assertEqual(told(machine), told(machine_after(BEGIN)))
        machine.attempt([(2, ("start", "left"))])
        self.assertEqual(len(machine), 3)

    def test_refused_with_its_cause_and_nothing_changes(self):
        machine = machine_after(BEGIN[:3])
        before = told(machine), machine.holder("a"), machine.holder("b")
        for wrong, kind, fields in (
            ((0, ("start", "left")), NoThread, {"thread": 0}),
            ((2, ("start", "none")), NoName, {"name": "none"}),
            ((-1, ("acquire", "a")), NoThread, {"thread": -1}),
            ((7, ("acquire", "a")), NoThread, {"thread": 7}),
            ((0, ("release", "a")), WrongMove, {"move": ("release", "a")}),
            ((0, ("acquire", "b")), MustWait, {"lock": "b", "blocker": 1}),
        ):
            for given in ([BEGIN[3], wrong], (BEGIN[3], wrong, wrong), [BEGIN[3], wrong, (2, ("start", "left"))]):
                with self.assertRaises(Refused) as caught:
                    machine.attempt(given)
                self.assertEqual([type(caught.exception), vars(caught.exception)], [Refused, {"at": 1}])
                cause = caught.exception.__cause__
                self.assertEqual([type(cause), vars(cause)], [kind, fields])
                self.assertEqual((told(machine), machine.holder("a"), machine.holder("b")), before)

    def test_the_first_wrong_step_counts(self):
        for at in range(len(BEGIN) + 1):
            machine = Machine(Library.read(CROSS))
            steps = BEGIN[:at] + [(5, ("none", "none"))] + BEGIN[at:]
            self.assertEqual(raised(Refused, machine.attempt, steps), {"at": at})
            self.assertEqual(told(machine), (0, (), (), [], [], []))

    def test_steps_go_on_after_a_refusal(self):
        machine = Machine(Library.read(CROSS))
        raised(Refused, machine.attempt, [*BEGIN, (0, ("acquire", "b"))])
        machine.attempt(BEGIN)
        self.assertEqual(told(machine), told(machine_after(BEGIN)))

    def test_the_list_is_not_kept(self):
        steps = list(BEGIN)
        machine = Machine(Library.read(CROSS))
        machine.attempt(steps)
        machine.start("left")
        self.assertEqual(steps, BEGIN)
        steps.clear()
        self.assertEqual(machine.steps[:4], tuple(BEGIN))


class TestIndependent(unittest.TestCase):
    def test_state_of(self):
        machine = machine_after(BEGIN[:3])
        before = told(machine)
        thread = machine.state_of(0)
        self.assertIs(type(thread), Thread)
        self.assertEqual(thread.run, (("start", "left"), ("acquire", "a")))
        thread.step(("acquire", "b"))
        self.assertEqual(told(machine), before)
        machine.step(1, ("acquire", "b"))
        self.assertEqual(machine.state_of(0).held, ("a",))
        self.assertEqual(thread.held, ("a", "b"))

    def test_duplicate(self):
        machine = machine_after(BEGIN[:3])
        twin = machine.duplicate()
        self.assertIs(type(twin), Machine)
        self.assertEqual(told(twin), told(machine))
        before = told(machine), machine.holder("a"), machine.holder("b")
        twin.step(0, ("acquire", "b"))
        twin.step(0, ("release", "b"))
        twin.step(0, ("release", "a"))
        twin.start("right")
        self.assertEqual((told(machine), machine.holder("a"), machine.holder("b")), before)
        between = told(twin)
        machine.step(1, ("acquire", "b"))
        self.assertEqual(told(twin), between)
        self.assertEqual([twin.holder("a"), twin.holder("b"), machine.holder("a"), machine.holder("b")],
                         [None, None, 0, 1])
        self.assertEqual(twin.steps[:3], machine.steps[:3])


class TestWalks(unittest.TestCase):
    def walk(self, library, reentrant, chance):
        """Makes random steps, right and wrong ones, on the machine and on the plain machine; returns both."""
        machine, plain = Machine(library, reentrant=reentrant), PlainMachine(library, reentrant)
        steps = []
        for _ in range(80):
            if chance.random() < 0.15 and len(machine) < 5 or len(machine) == 0:
                thread, move = len(machine), ("start", chance.choice(library.entries))
            else:
                thread = chance.randrange(len(machine))
                moves = [move for move, _ in next_moves(library, plain.states[thread])]
                move = chance.choice(moves or [("return", "none")])
            if chance.random() < 0.1:
                thread = chance.randint(-2, 6)
            if chance.random() < 0.05:
                move = chance.choice([("release", "none"), ("start", "none"), ("acquire", "a")])
            expected = plain.outcome(thread, move)
            before = told(machine)
            if expected is None:
                self.assertIsNone(machine.step(thread, move))
                steps.append((thread, move))
            else:
                self.assertEqual(raised(expected[0], machine.step, thread, move), expected[1])
                self.assertEqual(told(machine), before)
            self.check(machine, plain, steps)
        return machine, plain

    def check(self, machine, plain, steps):
        numbers = range(len(plain.states))
        self.assertEqual([len(machine), machine.steps], [len(numbers), tuple(steps)])
        self.assertEqual([machine.waits_for(thread) for thread in numbers],
                         [plain.waits_for(thread) for thread in numbers])
        self.assertEqual({lock: machine.holder(lock) for lock in plain.library.locks},
                         {lock: plain.holder(lock) for lock in plain.library.locks})
        self.assertEqual(machine.deadlock(), (plain.deadlocks() or [()])[0])

    def test_random_steps(self):
        waits = deadlocks = 0
        for seed in range(120):
            library = Library.read(dense_text(seed) if seed % 3 else random_text(seed))
            if not library.entries:
                continue
            machine, plain = self.walk(library, seed % 2 == 0, random.Random(seed))
            for thread, run in enumerate(plain.runs):
                # Point 32: each thread is in the state that its own moves lead to.
                self.assertEqual(told_of_thread(machine.state_of(thread)), told_of_thread(play(library, run)))
                self.assertEqual(machine.moves(thread), machine.state_of(thread).moves())
                self.assertEqual(machine.state_of(thread).run, tuple(run))
            again = Machine(library, reentrant=seed % 2 == 0)
            again.attempt(machine.steps)
            self.assertEqual(told(again), told(machine))
            self.assertEqual(told(machine.duplicate()), told(machine))
            waits += any(machine.waits_for(thread) is not None for thread in range(len(machine)))
            deadlocks += machine.deadlock() != ()
        self.assertGreater(waits, 40)
        self.assertGreater(deadlocks, 15)

    def test_errors_of_steps_are_errors_of_the_program(self):
        machine = machine_after(BEGIN)
        for thread, move in ((9, ("start", "left")), (2, ("start", "x")), (9, ("x", "x")), (0, ("x", "x")),
                             (0, ("acquire", "b"))):
            with self.assertRaises(HeldError):
                machine.step(thread, move)
