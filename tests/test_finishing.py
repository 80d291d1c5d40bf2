"""Point 34: finishing a machine."""

import random
import unittest

from heldcalls.errors import Deadlocked
from heldcalls.finishing import finish
from heldcalls.library import Library
from heldcalls.machine import Machine
from tests.moves import next_moves
from tests.support import raised, text_of
from tests.test_machine import BEGIN, CROSS, PlainMachine, machine_after, told
from tests.walks import random_machine, some_library


def plain_finish(steps, library, reentrant):
    """Goes on behind the steps by the words of point 34; returns what it adds and the first deadlock in the end."""
    plain = PlainMachine(library, reentrant)
    for thread, move in steps:
        assert plain.outcome(thread, move) is None
    added = []
    while True:
        free = [thread for thread, (frames, _, _) in enumerate(plain.states)
                if frames and plain.waits_for(thread) is None]
        if not free:
            return tuple(added), (plain.deadlocks() or [()])[0]
        move = next_moves(library, plain.states[free[0]])[-1][0]
        assert plain.outcome(free[0], move) is None
        added.append((free[0], move))


class TestFinish(unittest.TestCase):
    def test_no_threads(self):
        for reentrant in (True, False):
            self.assertEqual(finish(Machine(Library.read(CROSS), reentrant=reentrant)), ())
        self.assertEqual(finish(Machine(Library.read(""))), ())

    def test_all_threads_have_ended(self):
        machine = Machine(Library.read("routine r\nend\nentry r"))
        for _ in range(2):
            machine.step(machine.start("r"), ("return", "r"))
        self.assertEqual(finish(machine), ())

    def test_the_least_thread_goes_on_until_it_must_wait(self):
        machine = machine_after([(0, ("start", "left")), (1, ("start", "left")), (1, ("acquire", "a"))])
        expected = [(1, "acquire b"), (1, "release b"), (1, "release a"), (0, "acquire a"), (0, "acquire b"),
                    (0, "release b"), (0, "release a"), (0, "return left"), (1, "return left")]
        self.assertEqual(finish(machine), tuple((thread, tuple(move.split())) for thread, move in expected))

    def test_it_is_looked_for_anew_after_each_move(self):
        # Thread 2 lets first thread 1 go on, in the midst of its own moves, and thread 1 thread 0.
        text = text_of("lock a", "lock b", "routine one", "acquire a", "release a", "end", "routine two", "acquire a",
                       "acquire b", "release b", "release a", "end", "routine three", "acquire b", "release b",
                       "acquire b", "release b", "end", "entry one", "entry two", "entry three")
        machine = machine_after([(0, ("start", "one")), (1, ("start", "two")), (2, ("start", "three")),
                                 (1, ("acquire", "a")), (2, ("acquire", "b"))], text=text)
        threads = [thread for thread, _ in finish(machine)]
        self.assertEqual(threads, [2, 1, 1, 1, 0, 0, 0, 1, 2, 2, 2])

    def test_default_moves(self):
        text = text_of("hook h low", "deferred late low", "lock a", "routine low", "end", "routine r", "maybe low",
                       "acquire a", "invoke late", "invoke h", "release a", "end", "entry r").split("\n")
        text = text_of("lock a", *text[:2], *text[3:])
        machine = machine_after([(0, ("start", "r"))], text=text)
        self.assertEqual([" ".join(move) for _, move in finish(machine)],
                         ["skip low", "acquire a", "invoke late", "invoke h", "done h", "release a", "done late",
                          "return r"])

    def test_the_machine_does_not_change(self):
        for steps, reentrant in ((BEGIN, True), (BEGIN[:3], True), (BEGIN[:3], False), ((), True)):
            machine = machine_after(steps, reentrant=reentrant)
            before = told(machine)
            for _ in range(2):
                try:
                    first = finish(machine)
                    self.assertIs(type(first), tuple)
                    machine.duplicate().attempt(first)
                except Deadlocked:
                    self.assertEqual(steps, BEGIN)
                self.assertEqual(told(machine), before)

    def test_what_is_returned_stays(self):
        machine = machine_after(BEGIN[:3])
        first = finish(machine)
        machine.attempt(first)
        self.assertEqual([len(first), finish(machine)], [9, ()])
        self.assertTrue(all(machine.state_of(thread).ended for thread in (0, 1)))


class TestDeadlocked(unittest.TestCase):
    def test_in_a_deadlock_at_once(self):
        self.assertEqual(raised(Deadlocked, finish, machine_after(BEGIN)), {"cycle": (0, 1)})

    def test_the_state_in_which_it_fails_counts(self):
        # When finishing begins there is no deadlock, and threads 0 and 3 still go on.
        machine = machine_after([(0, ("start", "left")), (1, ("start", "right")), (1, ("acquire", "b"))])
        self.assertEqual(machine.deadlock(), ())
        self.assertEqual(raised(Deadlocked, finish, machine), {"cycle": (0, 1)})
        # There is the deadlock (2, 3), and a lesser one comes while the others go on.
        text = text_of("lock a", "lock b", "lock c", "lock d",
                       *[line for name, one, two in (("ab", "a", "b"), ("ba", "b", "a"), ("cd", "c", "d"),
                                                     ("dc", "d", "c"))
                         for line in (f"routine {name}", f"acquire {one}", f"acquire {two}", f"release {two}",
                                      f"release {one}", "end")],
                       "entry ab", "entry ba", "entry cd", "entry dc")
        machine = machine_after([(0, ("start", "ab")), (1, ("start", "ba")), (2, ("start", "cd")),
                                 (3, ("start", "dc")), (2, ("acquire", "c")), (3, ("acquire", "d")),
                                 (1, ("acquire", "b"))], text=text)
        self.assertEqual(machine.deadlock(), (2, 3))
        before = told(machine)
        self.assertEqual(raised(Deadlocked, finish, machine), {"cycle": (0, 1)})
        self.assertEqual(told(machine), before)

    def test_other_threads_end_before_it_fails(self):
        machine = machine_after([*BEGIN, (2, ("start", "twice"))])
        self.assertEqual(raised(Deadlocked, finish, machine), {"cycle": (0, 1)})
        machine = machine_after([(0, ("start", "twice")), (1, ("start", "left")), (2, ("start", "right")),
                                 (1, ("acquire", "a")), (2, ("acquire", "b"))])
        self.assertEqual(raised(Deadlocked, finish, machine), {"cycle": (1, 2)})

    def test_both_kinds_of_machines(self):
        steps = [(0, ("start", "twice")), (1, ("start", "left"))]
        self.assertEqual([thread for thread, _ in finish(machine_after(steps))], [0] * 5 + [1] * 5)
        self.assertEqual(raised(Deadlocked, finish, machine_after(steps, reentrant=False)), {"cycle": (0,)})


class TestMany(unittest.TestCase):
    def test_sixty_threads(self):
        machine = Machine(Library.read(CROSS))
        for _ in range(60):
            machine.start("left")
        machine.step(59, ("acquire", "a"))
        steps = finish(machine)
        self.assertEqual(len(steps), 60 * 5 - 1)
        self.assertEqual([thread for thread, _ in steps[:9]], [59, 59, 59, 0, 0, 0, 0, 0, 1])
        self.assertEqual(steps[-1], (59, ("return", "left")))
        machine.attempt(steps)

    def test_more_than_a_thousand_frames(self):
        library = Library.read(text_of("lock a", "hook h deep", "routine deep", "acquire a", "maybe deep", "invoke h",
                                       "release a", "end", "entry deep"))
        machine = Machine(library)
        for number in range(2):
            machine.start("deep")
        for _ in range(1500):
            for move in (("acquire", "a"), ("skip", "deep"), ("invoke", "h"), ("callback", "deep")):
                machine.step(1, move)
        self.assertGreater(len(machine.state_of(1).frames), 3000)
        steps = finish(machine)
        self.assertEqual(len(steps), 1500 * 3 + 6 + 6)
        again = machine.duplicate()
        again.attempt(steps)
        self.assertTrue(all(again.state_of(number).ended for number in (0, 1)))

    def test_sixty_deep_threads(self):
        library = Library.read("routine deep\nmaybe deep\nend\nentry deep")
        machine = Machine(library)
        for number in range(60):
            machine.start("deep")
            for _ in range(1100):
                machine.step(number, ("call", "deep"))
        steps = finish(machine)
        self.assertEqual([thread for thread, _ in steps], sorted(list(range(60)) * 1102))

    def test_against_the_words_of_the_point(self):
        failed = 0
        for seed in range(150):
            library, reentrant = some_library(seed), seed % 2 == 0
            machine = random_machine(library, random.Random(seed), reentrant=reentrant)
            before = told(machine)
            steps, cycle = plain_finish(machine.steps, library, reentrant)
            if cycle:
                failed += 1
                self.assertEqual(raised(Deadlocked, finish, machine), {"cycle": cycle})
            else:
                self.assertEqual(finish(machine), steps)
            self.assertEqual(told(machine), before)
        self.assertGreater(failed, 20)
        self.assertLess(failed, 130)
