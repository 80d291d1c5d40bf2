"""Point 35: final acquisitions, what is acquired since, and lock bases."""

import random
import unittest

from heldcalls.errors import BadRun, NoName
from heldcalls.holds import acquired_since, final_acquisitions, lock_base
from heldcalls.library import Library
from heldcalls.threads import play, shortest_run
from tests.support import raised, text_of
from tests.walks import random_run, some_library

# The order of the locks is not that of their names.
NEST = text_of("lock c", "lock b", "lock a", "routine rest", "acquire c", "acquire a", "release a", "acquire b",
               "acquire a", "release a", "release b", "release c", "end", "routine q", "acquire b", "acquire a",
               "acquire b", "release b", "release a", "call rest", "release b", "end", "routine free", "end",
               "entry q", "entry free")


def run_of(text, entry, many):
    """Returns the first moves, so many behind the start, of the shortest run."""
    return list(shortest_run(Library.read(text), entry))[:many + 1]


def acquisitions_by_words(run):
    """All acquisitions of a run, pairs (index, lock)."""
    found, held = [], []
    for at, (word, name) in enumerate(run):
        if word == "acquire":
            if name not in held:
                found.append((at, name))
            held.append(name)
        if word == "release":
            assert held.pop() == name
    return found


class TestFinalAcquisitions(unittest.TestCase):
    def final(self, many):
        return final_acquisitions(Library.read(NEST), run_of(NEST, "q", many))

    def test_nothing_is_held(self):
        library = Library.read(NEST)
        for run in ([("start", "q")], [("start", "free")], shortest_run(library, "q"), shortest_run(library, "free")):
            self.assertEqual(final_acquisitions(library, run), ())
            self.assertEqual(acquired_since(library, run), ())

    def test_after_each_move(self):
        self.assertEqual(self.final(1), (("b", 1),))
        self.assertEqual(self.final(2), (("b", 1), ("a", 2)))
        # The second acquire of b is no acquisition.
        self.assertEqual(self.final(3), (("b", 1), ("a", 2)))
        self.assertEqual(self.final(4), (("b", 1), ("a", 2)))
        self.assertEqual(self.final(5), (("b", 1),))
        self.assertEqual(self.final(7), (("b", 1), ("c", 7)))
        self.assertEqual(self.final(8), (("b", 1), ("c", 7), ("a", 8)))
        # The last acquisition of a counts.
        self.assertEqual(self.final(11), (("b", 1), ("c", 7), ("a", 11)))
        self.assertEqual(self.final(14), (("b", 1),))
        self.assertEqual(self.final(16), ())

    def test_a_lock_that_is_acquired_anew(self):
        text = text_of("lock a", "routine r", "acquire a", "release a", "acquire a", "acquire a", "release a",
                       "release a", "end", "entry r")
        library = Library.read(text)
        found = [final_acquisitions(library, run_of(text, "r", many)) for many in range(8)]
        self.assertEqual(found, [(), (("a", 1),), (), (("a", 3),), (("a", 3),), (("a", 3),), (), ()])

    def test_the_order_is_that_of_the_stack(self):
        found = final_acquisitions(Library.read(NEST), run_of(NEST, "q", 11))
        self.assertEqual(tuple(lock for lock, _ in found), play(Library.read(NEST), run_of(NEST, "q", 11)).lock_stack)
        self.assertEqual([type(found), type(found[0]), type(found[0][1])], [tuple, tuple, int])


class TestAcquiredSince(unittest.TestCase):
    def since(self, many):
        return acquired_since(Library.read(NEST), run_of(NEST, "q", many))

    def test_after_each_move(self):
        self.assertEqual(self.since(1), (("b", ()),))
        self.assertEqual(self.since(2), (("b", ("a",)), ("a", ())))
        self.assertEqual(self.since(3), (("b", ("a",)), ("a", ())))
        # A lock that has been released again counts, too.
        self.assertEqual(self.since(5), (("b", ("a",)),))
        # In the order of the library.
        self.assertEqual(self.since(7), (("b", ("c", "a")), ("c", ())))
        self.assertEqual(self.since(9), (("b", ("c", "a")), ("c", ("a",))))
        # The acquire of b within is no acquisition.
        self.assertEqual(self.since(11), (("b", ("c", "a")), ("c", ("a",)), ("a", ())))
        self.assertEqual(self.since(14), (("b", ("c", "a")),))
        self.assertEqual(self.since(16), ())

    def test_what_came_before_the_final_acquisition_does_not_count(self):
        text = text_of("lock a", "lock b", "routine r", "acquire b", "acquire a", "release a", "release b",
                       "acquire a", "release a", "acquire b", "release b", "end", "entry r")
        library = Library.read(text)
        self.assertEqual(acquired_since(library, run_of(text, "r", 2)), (("b", ("a",)), ("a", ())))
        self.assertEqual(acquired_since(library, run_of(text, "r", 7)), (("b", ()),))
        self.assertEqual(final_acquisitions(library, run_of(text, "r", 7)), (("b", 7),))

    def test_over_calls_and_bodies(self):
        text = text_of("lock a", "lock b", "lock c", "hook h low", "routine low", "acquire b", "release b", "end",
                       "routine r", "acquire a", "invoke h", "acquire c", "release c", "release a", "end", "entry r")
        run = [("start", "r"), ("acquire", "a"), ("invoke", "h"), ("callback", "low"), ("acquire", "b"),
               ("release", "b"), ("return", "low"), ("done", "h"), ("acquire", "c")]
        library = Library.read(text)
        self.assertEqual(final_acquisitions(library, run), (("a", 1), ("c", 8)))
        self.assertEqual(acquired_since(library, run), (("a", ("b", "c")), ("c", ())))
        self.assertEqual(acquired_since(library, run[:5]), (("a", ("b",)), ("b", ())))


class TestLockBase(unittest.TestCase):
    def test_from_the_beginning_up_to_the_lock(self):
        library, run = Library.read(NEST), run_of(NEST, "q", 11)
        self.assertEqual([lock_base(library, run, lock) for lock in "bca"], [("b",), ("b", "c"), ("b", "c", "a")])

    def test_a_lock_that_is_not_held(self):
        library, run = Library.read(NEST), run_of(NEST, "q", 5)
        for lock in ("a", "c", "q", "none", ""):
            self.assertEqual(raised(NoName, lock_base, library, run, lock), {"name": lock})
        self.assertEqual(lock_base(library, run, "b"), ("b",))
        self.assertEqual(raised(NoName, lock_base, library, [("start", "free")], "a"), {"name": "a"})


class TestBadRun(unittest.TestCase):
    def test_what_is_no_run(self):
        library = Library.read(NEST)
        good = run_of(NEST, "q", 3)
        for run, at in (([], 0), ((), 0), (good[1:], 0), ([("start", "none")], 0), ([("start", "b")], 0),
                        ([*good, ("release", "a")], 4), ([good[0], ("release", "b"), *good], 1),
                        ([*good, ("start", "q")], 4), ([good[0], ("acquire", "a"), ("none", "none")], 1),
                        ([("start", "free"), ("release", "a")], 1)):
            self.assertEqual(raised(BadRun, final_acquisitions, library, run), {"at": at})
            self.assertEqual(raised(BadRun, acquired_since, library, run), {"at": at})
            # It comes before the error of the lock.
            for lock in ("b", "none"):
                self.assertEqual(raised(BadRun, lock_base, library, run, lock), {"at": at})


class TestRuns(unittest.TestCase):
    def test_lists_and_tuples_that_stay_as_they_are(self):
        library, run = Library.read(NEST), run_of(NEST, "q", 11)
        before = list(run)
        for function, more in ((final_acquisitions, ()), (acquired_since, ()), (lock_base, ("c",))):
            first = function(library, run, *more)
            self.assertEqual(function(library, tuple(run), *more), first)
            self.assertEqual(run, before)
            self.assertIs(type(first), tuple)

    def test_many_frames(self):
        library = Library.read(text_of("lock a", "lock b", "routine r", "acquire b", "release b", "acquire a",
                                       "maybe r", "acquire b", "release b", "release a", "end", "entry r"))
        run = [("start", "r")]
        for _ in range(4000):
            run += [("acquire", "b"), ("release", "b"), ("acquire", "a"), ("call", "r")]
        self.assertEqual(final_acquisitions(library, run), (("a", 3),))
        self.assertEqual(acquired_since(library, run), (("a", ("b",)),))
        self.assertEqual(lock_base(library, run + [("acquire", "b")], "b"), ("a", "b"))

    def test_random_runs_by_the_words_of_the_point(self):
        deep = 0
        for seed in range(200):
            library, chance = some_library(seed), random.Random(seed)
            run = random_run(library, chance, chance.choice([5, 20, 80]))
            thread = play(library, run)
            made = acquisitions_by_words(run)
            finals = tuple((lock, max(at for at, name in made if name == lock)) for lock in thread.lock_stack)
            self.assertEqual(final_acquisitions(library, run), finals)
            self.assertEqual(acquired_since(library, run), tuple(
                (lock, tuple(name for name in library.locks if any(at > final for at, other in made if other == name)))
                for lock, final in finals))
            for lock, final in finals:
                base = lock_base(library, run, lock)
                self.assertEqual(base, thread.lock_stack[:thread.lock_stack.index(lock) + 1])
                # From the final acquisition on the lock is held, and the base is the stack behind it.
                self.assertEqual(play(library, run[:final + 1]).lock_stack, base)
                self.assertTrue(all(lock in play(library, run[:many]).held for many in range(final + 1, len(run) + 1)))
                self.assertNotIn(lock, play(library, run[:final]).held)
            deep += len(finals) > 1
        self.assertGreater(deep, 30)
