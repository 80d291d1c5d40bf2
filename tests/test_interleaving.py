"""Points 36 to 39: interleaving runs, run cycles, and deadlocks that are forced."""

import itertools
import random
import unittest

from heldcalls.errors import BadRun, Clash, NoRunCycle
from heldcalls.interleaving import force_deadlock, interleave, is_run_cycle
from heldcalls.library import Library
from heldcalls.threads import play, shortest_run
from tests.support import raised, text_of
from tests.test_holds import acquisitions_by_words
from tests.walks import (is_run_cycle_by_words, moves_of_thread, random_run, random_run_cycles, replayed,
                         ring_of_waits, some_library, statements)

CROSS = text_of("lock a", "lock b", "routine left", "acquire a", "acquire b", "release b", "release a", "end",
                "routine right", "acquire b", "acquire a", "release a", "release b", "end", "routine free", "end",
                "entry left", "entry right", "entry free")

# Any thread can acquire the locks in any order and any nesting.
FREE = text_of("lock c", "lock b", "lock e", "lock a", "lock d", "hook h ra rb rc rd re",
               *[line for lock in "abcde" for line in (f"routine r{lock}", "invoke h", f"acquire {lock}", "invoke h",
                                                       f"release {lock}", "end")],
               *[f"entry r{lock}" for lock in "abcde"])


def way(words):
    """Returns the run of FREE that makes these acquires and releases, with calls back of a body in between.

    "a b -b c" acquires a and b, releases b and acquires c; with "!d" in the end it goes to where it wants d.
    """
    thread = play(Library.read(FREE), [("start", "ra"), ("invoke", "h")])
    for word in words.split():
        lock = word[-1]
        wished = ("release", lock) if word[0] == "-" else ("callback", f"r{lock}")
        while wished not in thread.moves():
            thread.step(thread.moves()[-1])
        thread.step(wished)
        if word[0] == "-":
            continue
        while thread.wants != lock:
            thread.step(thread.moves()[-1])
        if word[0] != "!":
            thread.step(("acquire", lock))
            thread.step(("invoke", "h"))
    return list(thread.run)


def first_moves(text, entry, many):
    return list(shortest_run(Library.read(text), entry))[:many + 1]


def held_sets(run):
    """The sets of the locks that are held after 0, 1, .. moves of the run."""
    held, found = [], [frozenset()]
    for word, name in run:
        if word == "acquire":
            held.append(name)
        if word == "release":
            held.pop()
        found.append(frozenset(held))
    return found


def some_order_goes(runs):
    """Tells whether some order of all moves of the runs can be made on a reentrant machine: all are tried."""
    held = [held_sets(run) for run in runs]
    start = (0,) * len(runs)
    seen, todo = {start}, [start]
    while todo:
        places = todo.pop()
        if places == tuple(len(run) for run in runs):
            return True
        for at, run in enumerate(runs):
            if places[at] == len(run):
                continue
            word, name = run[places[at]]
            others = [held[other][places[other]] for other in range(len(runs)) if other != at]
            if word == "acquire" and any(name in locks for locks in others):
                continue
            later = (*places[:at], places[at] + 1, *places[at + 1:])
            if later not in seen:
                seen.add(later)
                todo.append(later)
    return False


def finals_by_words(library, runs):
    """For each run the pairs (index, lock) of its final acquisitions, and all pairs (y, x) of point 36."""
    finals, pairs = [], set()
    held = {lock for run in runs for lock in play(library, run).held}
    for run in runs:
        stack = play(library, run).lock_stack
        made = acquisitions_by_words(run)
        finals.append(sorted((max(at for at, name in made if name == lock), lock) for lock in stack))
        pairs |= {(before, name) for final, before in finals[-1] for at, name in made if at > final and name in held}
    return finals, pairs


def clash_by_words(library, runs):
    """The cycle of the Clash that point 36 requires, or None."""
    stacks = [play(library, run).lock_stack for run in runs]
    for lock in library.locks:
        if sum(lock in stack for stack in stacks) > 1:
            return (lock,)
    pairs = finals_by_words(library, runs)[1]
    for many in range(2, len(library.locks) + 1):
        for cycle in itertools.permutations(library.locks, many):
            least = min(cycle, key=library.locks.index)
            if cycle[0] == least and all(pair in pairs for pair in zip(cycle, cycle[1:] + cycle[:1])):
                return cycle
    return None


def schedule_by_words(library, runs):
    """The schedule of point 37, written out once more."""
    finals, pairs = finals_by_words(library, runs)
    schedule, done, places = [], set(), []
    for thread, run in enumerate(runs):
        places.append(min([at for at, _ in finals[thread]], default=len(run)))
        schedule += [(thread, move) for move in run[:places[thread]]]
    while any(place < len(run) for place, run in zip(places, runs)):
        for thread, run in enumerate(runs):
            if places[thread] == len(run):
                continue
            lock = run[places[thread]][1]
            if all(before in done for before, after in pairs if after == lock):
                end = min([at for at, _ in finals[thread] if at > places[thread]], default=len(run))
                schedule += [(thread, move) for move in run[places[thread]:end]]
                places[thread] = end
                done.add(lock)
                break
        else:
            raise AssertionError("no thread may go")
    return tuple(schedule)


class TestInterleave(unittest.TestCase):
    def test_no_runs(self):
        for runs in ([], ()):
            found = interleave(Library.read(CROSS), runs)
            self.assertEqual([found, type(found)], [(), tuple])
        self.assertEqual(interleave(Library.read(""), []), ())

    def test_one_run(self):
        library = Library.read(CROSS)
        for many in range(6):
            run = first_moves(CROSS, "left", many)
            self.assertEqual(interleave(library, [run]), tuple((0, move) for move in run))

    def test_runs_that_hold_nothing_come_one_after_another(self):
        library = Library.read(CROSS)
        runs = [shortest_run(library, entry) for entry in ("left", "right", "free", "left")]
        expected = tuple((thread, move) for thread, run in enumerate(runs) for move in run)
        self.assertEqual(interleave(library, runs), expected)
        replayed(library, expected)

    def test_first_what_comes_before_the_first_final_acquisition(self):
        text = text_of("lock a", "lock b", "routine one", "acquire b", "release b", "acquire a", "release a", "end",
                       "routine two", "acquire a", "release a", "acquire b", "acquire b", "release b", "release b",
                       "end", "entry one", "entry two")
        library = Library.read(text)
        one, two = first_moves(text, "one", 3), first_moves(text, "two", 4)
        self.assertEqual(interleave(library, [one, two]), (
            (0, ("start", "one")), (0, ("acquire", "b")), (0, ("release", "b")),
            (1, ("start", "two")), (1, ("acquire", "a")), (1, ("release", "a")),
            (0, ("acquire", "a")), (1, ("acquire", "b")), (1, ("acquire", "b"))))

    def test_the_least_number_that_may_go(self):
        library = Library.read(FREE)
        # b comes before a, because thread 1 acquires a since b; when it has come, thread 0 is the first one again.
        runs = [way("a d -d"), way("b a -a"), way("c"), way("d e")]
        schedule = interleave(library, runs)
        self.assertEqual(schedule, schedule_by_words(library, runs))
        acquired = [(thread, name) for thread, (word, name) in schedule if word == "acquire"]
        self.assertEqual(acquired, [(1, "b"), (1, "a"), (0, "a"), (0, "d"), (2, "c"), (3, "d"), (3, "e")])
        replayed(library, schedule)

    def test_part_by_part(self):
        library = Library.read(FREE)
        # b comes before a (thread 1 acquires a since b), c comes before b (thread 2 acquires b since c).
        runs = [way("a"), way("b a -a"), way("c b -b"), way("d e")]
        schedule = interleave(library, runs)
        acquired = [(thread, name) for thread, (word, name) in schedule if word == "acquire"]
        self.assertEqual(acquired, [(2, "c"), (2, "b"), (1, "b"), (1, "a"), (0, "a"), (3, "d"), (3, "e")])
        replayed(library, schedule)

    def test_a_part_ends_before_the_next_final_acquisition(self):
        library = Library.read(FREE)
        # Thread 0 may acquire a at once, but c only after thread 1 has come to hold d.
        runs = [way("a c"), way("d c -c")]
        schedule = interleave(library, runs)
        acquired = [(thread, name) for thread, (word, name) in schedule if word == "acquire"]
        self.assertEqual(acquired, [(0, "a"), (1, "d"), (1, "c"), (0, "c")])
        replayed(library, schedule)

    def test_lists_and_tuples_that_stay_as_they_are(self):
        library = Library.read(CROSS)
        runs = [first_moves(CROSS, "left", 1), first_moves(CROSS, "right", 1)]
        before = [list(run) for run in runs]
        first = interleave(library, runs)
        self.assertEqual(runs, before)
        for given in (tuple(runs), [tuple(run) for run in runs], tuple(tuple(run) for run in runs)):
            self.assertEqual(interleave(library, given), first)
        runs[0].clear()
        runs.clear()
        self.assertEqual(first, ((0, ("start", "left")), (1, ("start", "right")), (0, ("acquire", "a")),
                                 (1, ("acquire", "b"))))

    def test_more_runs_than_locks(self):
        library = Library.read(CROSS)
        runs = [shortest_run(library, "left")] * 30 + [first_moves(CROSS, "right", 2)] + \
            [shortest_run(library, "right")] * 29
        schedule = interleave(library, runs)
        self.assertEqual(schedule, schedule_by_words(library, runs))
        machine = replayed(library, schedule)
        self.assertEqual([len(machine), machine.holder("a"), machine.holder("b")], [60, 30, 30])

    def test_long_runs(self):
        library = Library.read(FREE)
        runs = [way("a b -b -a " * 400 + "a b -b " + "c -c " * 1000), way("e d -d -e " * 800 + "d e")]
        self.assertGreater(min(len(run) for run in runs), 8000)
        self.assertEqual(replayed(library, interleave(library, runs)).holder("e"), 1)


class TestBadRun(unittest.TestCase):
    def test_the_first_run_that_is_none(self):
        library = Library.read(CROSS)
        good = first_moves(CROSS, "left", 2)
        for bad, at in (([], 0), (good[1:], 0), ([*good, good[0]], 3), ([good[0], ("acquire", "b")], 1)):
            self.assertEqual(raised(BadRun, interleave, library, [bad]), {"at": at})
            self.assertEqual(raised(BadRun, interleave, library, [good, bad, []]), {"at": at})
            # It comes before any clash.
            self.assertEqual(raised(BadRun, interleave, library, (good, good, bad)), {"at": at})
            self.assertFalse(is_run_cycle(library, [good, bad]))
            self.assertEqual(raised(NoRunCycle, force_deadlock, library, [good, bad]), {})


class TestClash(unittest.TestCase):
    def clash(self, *words):
        runs = [way(each) for each in words]
        before = [list(run) for run in runs]
        found = raised(Clash, interleave, Library.read(FREE), runs)
        self.assertEqual(runs, before)
        self.assertEqual(found, {"cycle": clash_by_words(Library.read(FREE), runs)})
        if len(runs) < 4:
            self.assertFalse(some_order_goes(runs))
        return found["cycle"]

    def test_a_lock_in_two_lock_stacks(self):
        self.assertEqual(self.clash("a", "a"), ("a",))
        self.assertEqual(self.clash("a b", "c b"), ("b",))
        self.assertEqual(self.clash("a", "b", "b c", "d"), ("b",))

    def test_the_first_such_lock_of_the_library(self):
        # The locks are c, b, e, a, d in the library's order.
        self.assertEqual(self.clash("a b c d e", "e d c b a"), ("c",))
        self.assertEqual(self.clash("a d", "d a"), ("a",))
        self.assertEqual(self.clash("a b", "a", "b"), ("b",))

    def test_a_common_lock_comes_before_a_lock_cycle(self):
        self.assertEqual(self.clash("c b -b d", "b c -c d"), ("d",))

    def test_lock_cycles(self):
        self.assertEqual(self.clash("a b -b", "b a -a"), ("b", "a"))
        self.assertEqual(self.clash("a b -b", "b c -c", "c a -a"), ("c", "a", "b"))
        self.assertEqual(self.clash("a b -b", "b c -c", "c d -d", "d e -e", "e a -a"), ("c", "d", "e", "a", "b"))

    def test_the_shortest_lock_cycle(self):
        self.assertEqual(self.clash("a b -b d -d", "b c -c", "c a -a", "d a -a"), ("a", "d"))
        # Over two locks of one run.
        self.assertEqual(self.clash("a b c -c", "c a -a"), ("c", "a"))

    def test_acquisitions_before_the_final_one_do_not_count(self):
        library = Library.read(FREE)
        self.assertEqual(self.clash("a b -b", "b a -a"), ("b", "a"))
        for words in (("a b -b -a a", "b a -a"), ("a b -b", "b a -a -b b")):
            runs = [way(each) for each in words]
            replayed(library, interleave(library, runs))

    def test_locks_that_no_run_holds_in_the_end_do_not_count(self):
        runs = [way("a c -c"), way("b c -c")]
        self.assertEqual(len(interleave(Library.read(FREE), runs)), sum(map(len, runs)))

    def test_a_lock_that_is_held_already_is_not_acquired(self):
        # The second acquire of a in the run of thread 0 comes after b, but it is no acquisition.
        runs = [way("a c a -a"), way("b a -a")]
        replayed(Library.read(FREE), interleave(Library.read(FREE), runs))

    def test_some_order_goes_exactly_if_there_is_no_clash(self):
        clashes = goes = cycles = 0
        for seed in range(260):
            library, chance = some_library(seed), random.Random(seed)
            many = chance.choice([2, 2, 3])
            runs = [random_run(library, chance, chance.choice([6, 12, 24])) for _ in range(many)]
            expected = clash_by_words(library, runs)
            self.assertEqual(some_order_goes(runs), expected is None)
            if expected is None:
                schedule = interleave(library, runs)
                self.assertEqual(schedule, schedule_by_words(library, runs))
                replayed(library, schedule)
                goes += 1
            else:
                self.assertEqual(raised(Clash, interleave, library, runs), {"cycle": expected})
                clashes += 1
                cycles += len(expected) > 1
        self.assertGreater(min(clashes, goes), 40)

    def test_random_ways_that_hold_different_locks(self):
        cycles = goes = 0
        library = Library.read(FREE)
        for seed in range(300):
            chance = random.Random(seed)
            locks = chance.sample("abcde", 5)
            cut = chance.randint(1, 4)
            runs = [way(random_way(chance, part)) for part in (locks[:cut], locks[cut:])]
            expected = clash_by_words(library, runs)
            self.assertEqual(some_order_goes(runs), expected is None)
            if expected is None:
                schedule = interleave(library, runs)
                self.assertEqual(schedule, schedule_by_words(library, runs))
                replayed(library, schedule)
                goes += 1
            else:
                self.assertEqual(raised(Clash, interleave, library, runs), {"cycle": expected})
                cycles += 1
        self.assertGreater(min(cycles, goes), 40)


def random_way(chance, stack, *, wanted=""):
    """Returns the words of a way that comes to hold the locks of the stack, with others in between."""
    words = []
    for at in range(len(stack) + 1):
        for _ in range(chance.choice([0, 0, 1, 2])):
            inner = chance.sample("abcde", chance.randint(1, 2))
            words += [*inner, *[f"-{lock}" for lock in reversed(inner)]]
        words += stack[at:at + 1]
    return " ".join(words + ([f"!{wanted}"] if wanted else []))


class TestIsRunCycle(unittest.TestCase):
    def check(self, expected, *words):
        library = Library.read(FREE)
        runs = [way(each) for each in words]
        before = [list(run) for run in runs]
        for given in (runs, tuple(runs), [tuple(run) for run in runs]):
            self.assertIs(is_run_cycle(library, given), expected)
        self.assertEqual(runs, before)
        self.assertIs(is_run_cycle_by_words(library, runs), expected)
        if not expected:
            self.assertEqual(raised(NoRunCycle, force_deadlock, library, runs), {})

    def test_run_cycles(self):
        self.check(True, "a !b", "b !a")
        self.check(True, "a !b", "b !c", "c !a")
        self.check(True, "a !b", "b !c", "c !d", "d !e", "e !a")
        self.check(True, "c a !b", "d b !a")

    def test_none_and_one(self):
        self.check(False)
        self.check(False, "a !b")
        self.check(False, "a b")
        self.check(False, "a !a")

    def test_the_order_counts(self):
        self.check(False, "b !c", "a !b", "c !a")
        self.check(True, "b !c", "c !a", "a !b")

    def test_what_is_wanted(self):
        self.check(False, "a !b", "b")
        self.check(False, "a", "b !a")
        self.check(False, "a !b", "b !c")
        self.check(False, "a !b", "c !a")
        # A lock that the thread holds itself, although the next one holds it, too.
        self.check(False, "a b !b", "b !a")
        self.check(False, "a b !a", "a b !b")

    def test_lock_bases_that_share_a_lock(self):
        self.check(False, "c a !b", "c b !a")
        self.check(False, "a c !b", "c b !d", "d !c")
        # What lies above the base does not count.
        self.check(True, "a c !b", "b c !a")
        self.check(True, "a b c d !e", "e b c d !a")
        self.check(True, "a b c d !e", "e a b c !d")
        self.check(False, "a b c d !e", "b e !d")

    def test_a_thread_that_has_ended_wants_nothing(self):
        library = Library.read(CROSS)
        left, right = first_moves(CROSS, "left", 1), first_moves(CROSS, "right", 1)
        self.assertTrue(is_run_cycle(library, [left, right]))
        for other in (shortest_run(library, "right"), first_moves(CROSS, "right", 0), [("start", "free")],
                      first_moves(CROSS, "right", 2)):
            self.assertIs(is_run_cycle(library, [left, other]), False)
            self.assertIs(is_run_cycle(library, [other, left]), False)

    def test_what_is_no_run(self):
        library = Library.read(CROSS)
        left, right = first_moves(CROSS, "left", 1), first_moves(CROSS, "right", 1)
        for bad in ([], right[1:], [*right, right[1]], [("start", "none")]):
            for runs in ([left, bad], [bad, left], [left, right, bad], [bad], [bad, bad]):
                self.assertIs(is_run_cycle(library, runs), False)
        self.assertIs(is_run_cycle(Library.read(""), []), False)

    def test_random_runs(self):
        found = 0
        for seed in range(400):
            library, chance = some_library(seed), random.Random(seed)
            runs = [random_run(library, chance, chance.choice([6, 12, 24])) for _ in range(2)]
            expected = is_run_cycle_by_words(library, runs)
            self.assertIs(is_run_cycle(library, runs), expected)
            found += expected
        self.assertLess(found, 200)


class ForceTest(unittest.TestCase):
    def check(self, library, runs):
        """Holds what is forced from a run cycle against point 39; tells whether its runs can be interleaved."""
        before = [tuple(run) for run in runs]
        found = force_deadlock(library, runs)
        schedule, origin = found
        self.assertEqual([tuple(run) for run in runs], before)
        self.assertEqual([type(found), type(origin), {type(at) for at in origin}], [tuple, tuple, {int}])
        self.assertEqual(len(origin), len(set(origin)))
        self.assertTrue(all(0 <= at < len(runs) for at in origin))
        machine = replayed(library, schedule)
        self.assertEqual(len(machine), len(origin))
        self.assertGreaterEqual(len(origin), 2)
        self.assertTrue(ring_of_waits(machine))
        self.assertEqual(machine.deadlock(), tuple(range(len(origin))))
        beginnings = [moves_of_thread(schedule, thread) for thread in range(len(origin))]
        for at, beginning in zip(origin, beginnings):
            self.assertGreater(len(beginning), 0)
            self.assertEqual(before[at][:len(beginning)], beginning)
        self.assertTrue(is_run_cycle_by_words(library, beginnings))
        self.assertEqual(schedule, schedule_by_words(library, beginnings))
        if clash_by_words(library, runs) is None:
            self.assertEqual((schedule, origin), (interleave(library, runs), tuple(range(len(runs)))))
            return True
        self.assertLess(sum(map(statements, beginnings)), sum(map(statements, runs)))
        self.assertEqual(force_deadlock(library, runs), found)
        return False


class TestForceDeadlock(ForceTest):
    def force(self, *words):
        library, runs = Library.read(FREE), [way(each) for each in words]
        self.assertFalse(self.check(library, runs))
        return force_deadlock(library, tuple(tuple(run) for run in runs))

    def test_runs_that_can_be_interleaved(self):
        for words in (["a !b", "b !a"], ["b !a", "a !b"], ["c a !b", "d b !a"], ["a d -d !b", "b !c", "c !a"],
                      ["a !b", "b !c", "c !d", "d !e", "e !a"]):
            self.assertTrue(self.check(Library.read(FREE), [way(each) for each in words]))

    def test_the_origin_of_runs_that_can_be_interleaved(self):
        library = Library.read(CROSS)
        runs = [first_moves(CROSS, "left", 1), first_moves(CROSS, "right", 1)]
        self.assertEqual(force_deadlock(library, runs), (
            ((0, ("start", "left")), (1, ("start", "right")), (0, ("acquire", "a")), (1, ("acquire", "b"))), (0, 1)))

    def test_a_lock_cycle(self):
        _, origin = self.force("a b -b c -c !b", "b a -a !a")
        self.assertEqual(sorted(origin), [0, 1])
        self.force("a b -b !b", "b c -c !c", "c a -a !a")
        self.force("a b -b c -c d -d e -e !b", "b c -c !c", "c d -d !d", "d e -e !e", "e a -a !a")

    def test_a_lock_cycle_of_some_of_the_runs(self):
        self.force("a c -c !b", "b !c", "c a -a !d", "d !a")
        self.force("a d -d !b", "b a -a !c", "c b -b !d", "d c -c !a")

    def test_a_common_lock_above_both_bases(self):
        self.force("a c !b", "b c !a")
        self.force("a c d !b", "b d c !a")
        self.force("a c !b", "b d !e", "e c d !a")

    def test_a_lock_above_a_base_that_is_in_another_base(self):
        # The first run can be left uncut with the second one, or cut with the third one.
        _, origin = self.force("a c !b", "b !c", "c !a")
        self.assertIn(sorted(origin), [[0, 1], [0, 2]])
        self.force("a !b", "b d e !c", "c !d", "d !a")

    def test_locks_acquired_again(self):
        self.force("a a -a b a -a -b c a -a -c !b", "b b -b a b -b -a !a")
        self.force("c -c a c a b -b c -c -a -c !b", "c -c b a b -b -a !a")

    def test_the_beginnings_are_of_different_runs(self):
        # The first run alone comes by a !b and by b !a.
        _, origin = self.force("a b -b -a b a -a -b a d -d b c -c -b !d", "d a -a !a")
        self.assertEqual(sorted(origin), [0, 1])

    def test_every_nesting_on_the_way(self):
        library = Library.read(FREE)
        for many in (2, 3, 5):
            locks = "ebdac"[:many]
            runs = [way(f"{through('abcde')} {one} {through('abcde'.replace(one, ''))} !{two}")
                    for one, two in zip(locks, locks[1:] + locks[:1])]
            self.assertGreater(min(len(run) for run in runs), 2000)
            self.assertFalse(self.check(library, runs))

    def test_random_run_cycles(self):
        clashes = goes = 0
        for seed in range(150):
            library = some_library(seed)
            for runs in random_run_cycles(library, random.Random(seed), tries=6):
                if self.check(library, runs):
                    goes += 1
                else:
                    clashes += 1
        self.assertGreater(min(clashes, goes), 30)

    def test_random_ways_in_a_cycle(self):
        library = Library.read(FREE)
        clashes = left_out = 0
        for seed in range(250):
            chance = random.Random(seed)
            many = chance.randint(2, 5)
            locks = chance.sample("abcde", 5)
            runs = []
            for at in range(many):
                above = chance.sample(locks[many:] + [lock for lock in locks[:many] if lock != locks[at]],
                                      chance.randint(0, 3))
                wanted = locks[(at + 1) % many]
                stack = [locks[at], *[lock for lock in above if lock != wanted]]
                runs.append(way(random_way(chance, stack, wanted=wanted)))
            if not self.check(library, runs):
                clashes += 1
                left_out += len(force_deadlock(library, runs)[1]) < many
        self.assertGreater(clashes, 150)
        self.assertGreater(left_out, 50)


def through(locks):
    """Returns the words of a way through all nestings of the locks."""
    return " ".join(f"{lock} {through(locks.replace(lock, ''))} -{lock}" for lock in locks)


class TestNoRunCycle(unittest.TestCase):
    def test_it_has_no_field(self):
        library = Library.read(CROSS)
        left, right = first_moves(CROSS, "left", 1), first_moves(CROSS, "right", 1)
        for runs in ([], (), [left], [left, left], [left, right, left], [left, []],
                     [right, shortest_run(library, "left")]):
            before = [list(run) for run in runs]
            self.assertEqual(raised(NoRunCycle, force_deadlock, library, runs), {})
            self.assertEqual([list(run) for run in runs], before)
