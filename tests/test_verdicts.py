"""Points 41 to 45: verdicts."""

import random
import unittest

from heldcalls.certificates import gaps
from heldcalls.chains import chains
from heldcalls.contexts import contexts
from heldcalls.cycles import least_cycle
from heldcalls.errors import Deadlocked
from heldcalls.finishing import finish
from heldcalls.interleaving import interleave
from heldcalls.library import Library
from heldcalls.runs import run_to_request
from heldcalls.tables import table_of
from heldcalls.verdicts import Safe, Unsafe, Verdict, analyze
from tests.joint_search import least_deadlock
from tests.moves import held_set, next_moves, start_state
from tests.support import dense_text, full_text, raised, random_text, text_of, tiny_text
from tests.walks import moves_of_thread, random_machine, replayed, ring_of_waits, statements

CROSS = text_of("lock a", "lock b", "routine left", "acquire a", "acquire b", "release b", "release a", "end",
                "routine right", "acquire b", "acquire a", "release a", "release b", "end",
                "entry left", "entry right")
SAW = text_of("lock a", "hook saw get", "routine get", "acquire a", "release a", "end", "routine put", "acquire a",
              "invoke saw", "release a", "end", "entry put")
KINDS = (True, False)
FIRST_LINES = {True: "a lock may be acquired again by its holder",
               False: "a lock may not be acquired again by its holder"}


def ring_text(locks, *, between=()):
    """Returns a library with a routine for each lock that acquires it and then the next one, the last one the first."""
    lines = [f"lock {lock}" for lock in sorted(locks)] + ["hook h"]
    for one, two in zip(locks, locks[1:] + locks[:1]):
        lines += [f"routine r{one}", f"acquire {one}", *between, f"acquire {two}", f"release {two}",
                  f"release {one}", "end"]
    return text_of(*lines, *[f"entry r{lock}" for lock in locks])


def told(verdict):
    """Returns all that the verdict tells."""
    fields = {name: value for name, value in vars(verdict).items() if not name.startswith("_")}
    called = verdict.called_back() if isinstance(verdict, Unsafe) else None
    return type(verdict), fields, called, verdict.lines(), bool(verdict)


def called_back_by_words(library, schedule):
    """The pairs of called_back, the schedule replayed with the states of moves.py."""
    made, states = set(), []
    for thread, move in schedule:
        if move[0] == "start":
            states.append(start_state(move[1]))
            continue
        if move[0] == "callback":
            made.add((states[thread][0][-1][0], move[1]))
        states[thread] = dict(next_moves(library, states[thread]))[move]
    return tuple((hook, tuple(routine for routine in library.routines if (hook, routine) in made))
                 for hook in library.hooks)


class VerdictTest(unittest.TestCase):
    def check_unsafe(self, library, verdict, reentrant):
        """Holds an unsafe verdict against points 41 and 42."""
        table = table_of(library)
        alone = sorted((table[request], at, request) for at, request in enumerate(table.self_requests()))
        expected = (alone[0][2],) if alone and not reentrant else least_cycle(table)
        self.assertIs(type(verdict), Unsafe)
        self.assertEqual(verdict.requests, expected)
        self.assertEqual(verdict.threads, len(expected))
        self.assertEqual(verdict.total, sum(table[request] for request in expected))
        self.assertEqual({type(verdict.total), type(verdict.threads)}, {int})
        runs = [run_to_request(library, request) for request in expected]
        self.assertEqual(verdict.schedule, interleave(library, runs))
        self.assertEqual([moves_of_thread(verdict.schedule, thread) for thread in range(len(runs))], runs)
        self.assertEqual(statements([move for _, move in verdict.schedule]), verdict.total)
        machine = replayed(library, verdict.schedule, reentrant=reentrant)
        self.assertEqual(len(machine), verdict.threads)
        self.assertTrue(ring_of_waits(machine))
        for thread, (held, wanted) in enumerate(verdict.requests):
            self.assertEqual([machine.state_of(thread).held_set, machine.state_of(thread).wants], [held, wanted])
        self.assertEqual(raised(Deadlocked, finish, machine), {"cycle": tuple(range(len(runs)))})
        self.assertEqual(verdict.called_back(), called_back_by_words(library, verdict.schedule))
        self.assertEqual(verdict.lines(), [
            FIRST_LINES[reentrant], f"a deadlock of {verdict.threads} can come after {verdict.total} statements",
            *[f"thread {thread} holds {' '.join(held)} and wants {wanted}"
              for thread, (held, wanted) in enumerate(verdict.requests)]])

    def check_safe(self, library, verdict, reentrant):
        """Holds a safe verdict against points 41 and 44."""
        table = table_of(library)
        self.assertIs(type(verdict), Safe)
        self.assertEqual(least_cycle(table), ())
        self.assertTrue(reentrant or table.self_requests() == ())
        self.assertEqual(verdict.contexts, tuple((routine, held) for routine, held, _ in contexts(library)))
        self.assertEqual(verdict.chains, chains(table))
        self.assertEqual(list(gaps(library, verdict.contexts, verdict.chains, reentrant=reentrant)), [])
        self.assertEqual(verdict.lines(), [
            FIRST_LINES[reentrant],
            f"no deadlock can come: {len(verdict.contexts)} contexts, {len(verdict.chains)} chains"])

    def check(self, library, reentrant):
        verdict = analyze(library, reentrant=reentrant)
        self.assertIsInstance(verdict, Verdict)
        self.assertIs(verdict.reentrant, reentrant)
        self.assertIs(bool(verdict), isinstance(verdict, Safe))
        (self.check_safe if verdict else self.check_unsafe)(library, verdict, reentrant)
        return verdict


class TestSafe(VerdictTest):
    def test_libraries_without_much(self):
        for text in ("", "lock a", "hook h", "routine r\nend", "lock a\nroutine r\nacquire a\nrelease a\nend",
                     CROSS.split("\nentry")[0]):
            for reentrant in KINDS:
                verdict = self.check(Library.read(text), reentrant)
                self.assertEqual([verdict.contexts, verdict.chains], [(), ()])
                self.assertEqual(verdict.lines()[1], "no deadlock can come: 0 contexts, 0 chains")

    def test_contexts_and_chains_in_order(self):
        text = text_of("lock b", "lock a", "hook h low", "routine low", "acquire a", "release a", "end", "routine r",
                       "acquire b", "invoke h", "maybe low", "release b", "maybe low", "end", "entry r")
        for reentrant in KINDS:
            verdict = self.check(Library.read(text), reentrant)
            self.assertEqual(verdict.contexts, (("low", ()), ("low", ("b",)), ("r", ())))
            self.assertEqual(verdict.chains, ((("b",), "a"),))
            self.assertEqual(verdict.lines(), [FIRST_LINES[reentrant],
                                               "no deadlock can come: 3 contexts, 1 chains"])
            self.assertEqual([type(verdict.contexts), type(verdict.chains)], [tuple, tuple])

    def test_a_lock_that_keeps_threads_apart(self):
        guarded = CROSS.replace("lock a", "lock g\nlock a").replace("end", "release g\nend")
        guarded = guarded.replace("routine left", "routine left\nacquire g")
        guarded = guarded.replace("routine right", "routine right\nacquire g")
        for reentrant in KINDS:
            self.assertTrue(self.check(Library.read(guarded), reentrant))
            self.assertFalse(self.check(Library.read(CROSS), reentrant))

    def test_an_unsafe_routine_that_no_thread_comes_to(self):
        library = Library.read(CROSS.replace("\nentry right", ""))
        for reentrant in KINDS:
            self.assertTrue(self.check(library, reentrant))


class TestUnsafe(VerdictTest):
    def test_two_threads(self):
        for reentrant in KINDS:
            verdict = self.check(Library.read(CROSS), reentrant)
            self.assertEqual([verdict.requests, verdict.total, verdict.threads],
                             [((("a",), "b"), (("b",), "a")), 2, 2])
            self.assertEqual(verdict.called_back(), ())
            self.assertEqual(verdict.lines()[1:], [
                "a deadlock of 2 can come after 2 statements", "thread 0 holds a and wants b",
                "thread 1 holds b and wants a"])

    def test_rings(self):
        for locks in ("ab", "abc", "cab", "acb", "abcd", "ebdac"):
            for many in (0, 2):
                for reentrant in KINDS:
                    library = Library.read(ring_text(locks, between=["invoke h"] * many))
                    verdict = self.check(library, reentrant)
                    self.assertEqual([verdict.threads, verdict.total], [len(locks), len(locks) * (1 + many)])
                    self.assertEqual(verdict.requests[0][0], ("a",))

    def test_self_requests_count_only_where_machines_are_not_reentrant(self):
        library = Library.read(SAW)
        self.assertTrue(self.check(library, True))
        verdict = self.check(library, False)
        self.assertEqual([verdict.requests, verdict.total, verdict.threads], [((("a",), "a"),), 2, 1])
        self.assertEqual(verdict.schedule, ((0, ("start", "put")), (0, ("acquire", "a")), (0, ("invoke", "saw")),
                                            (0, ("callback", "get"))))

    def test_a_self_request_comes_before_a_shorter_cycle(self):
        text = CROSS.replace("entry left", text_of("routine twice", "acquire a", "acquire b", "acquire a", "release a",
                                                   "release b", "release a", "end", "entry left"), 1) + "\nentry twice"
        self.assertEqual(self.check(Library.read(text), True).threads, 2)
        verdict = self.check(Library.read(text), False)
        self.assertEqual([verdict.requests, verdict.total], [((("a", "b"), "a"),), 2])

    def test_the_shortest_self_request_and_of_several_the_first(self):
        def text(first, second):
            return text_of("lock c", "lock b", "lock a", "hook h", "routine p", *[f"acquire {lock}" for lock in first],
                           *[f"release {lock}" for lock in reversed(first)], "end", "routine q", "invoke h",
                           *[f"acquire {lock}" for lock in second],
                           *[f"release {lock}" for lock in reversed(second)], "end", "entry p", "entry q")
        for first, second, expected in (("cbc", "aa", (("c", "b"), "c")), ("cabb", "aa", (("a",), "a")),
                                        ("abb", "cc", (("c",), "c")), ("abb", "ca", (("b", "a"), "b")),
                                        ("aca", "bb", (("c", "a"), "a"))):
            verdict = self.check(Library.read(text(first, second)), False)
            self.assertEqual(verdict.requests, (expected,))

    def test_fewest_threads_and_then_fewest_statements(self):
        text = ring_text("abc").replace("routine rc", text_of(
            "routine far", "acquire b", "invoke h", "invoke h", "invoke h", "acquire a", "release a", "release b", "end",
            "routine rc"))
        self.assertEqual(self.check(Library.read(text), True).total, 3)
        verdict = self.check(Library.read(text + "\nentry far"), True)
        self.assertEqual([verdict.threads, verdict.total], [2, 5])
        near = text_of("routine near", "acquire b", "invoke h", "invoke h", "acquire a", "release a", "release b", "end")
        verdict = self.check(Library.read(text.replace("routine rc", near + "\nroutine rc") + "\nentry far\nentry near"),
                             True)
        self.assertEqual([verdict.threads, verdict.total], [2, 4])

    def test_called_back(self):
        text = text_of("lock a", "lock b", "hook none low", "hook now mid low", "deferred late low high",
                       "hook never", "routine low", "acquire b", "release b", "end", "routine mid", "call low", "end",
                       "routine high", "acquire b", "invoke now", "acquire a", "release a", "release b", "end",
                       "routine run", "acquire a", "invoke now", "invoke late", "release a", "end", "entry run")
        verdict = self.check(Library.read(text), True)
        self.assertEqual(verdict.requests, ((("a",), "b"), (("b",), "a")))
        self.assertEqual(verdict.called_back(), (("none", ()), ("now", ("low",)), ("late", ("high",)), ("never", ())))
        self.assertEqual(type(verdict.called_back()), tuple)

    def test_routines_that_are_called_back_come_in_order_and_once(self):
        text = text_of("lock a", "lock b", "hook h q p", "routine p", "acquire a", "release a", "end", "routine q",
                       "acquire b", "release b", "end", "routine r", "acquire a", "invoke h", "release a", "end",
                       "routine s", "acquire b", "invoke h", "release b", "end", "entry r", "entry s")
        verdict = self.check(Library.read(text), True)
        self.assertEqual(verdict.called_back(), (("h", ("p", "q")),))
        # The same routine called back by both threads.
        text = text_of("lock a", "lock b", "hook h p", "routine p", "maybe q", "maybe r", "end", "routine q",
                       "acquire a", "release a", "end", "routine r", "acquire b", "release b", "end", "routine s",
                       "acquire a", "invoke h", "release a", "end", "routine t", "acquire b", "invoke h", "release b",
                       "end", "entry s", "entry t")
        verdict = self.check(Library.read(text), True)
        self.assertEqual([move for _, move in verdict.schedule].count(("callback", "p")), 2)
        self.assertEqual(verdict.called_back(), (("h", ("p",)),))

    def test_held_locks_in_lines_joined_by_one_space(self):
        text = text_of("lock b", "lock a", "lock c", "routine p", "acquire a", "acquire b", "acquire c", "release c",
                       "release b", "release a", "end", "routine q", "acquire c", "acquire a", "release a",
                       "release c", "end", "entry p", "entry q")
        verdict = self.check(Library.read(text), True)
        self.assertEqual(verdict.lines()[2:], ["thread 0 holds b a and wants c", "thread 1 holds c and wants a"])


class TestObjects(VerdictTest):
    def test_the_default_is_reentrant_and_it_is_given_by_its_name(self):
        for text in (SAW, CROSS):
            library = Library.read(text)
            self.assertEqual(told(analyze(library)), told(analyze(library, reentrant=True)))
            self.assertNotEqual(told(analyze(library)), told(analyze(library, reentrant=False)))
            with self.assertRaises(TypeError):
                analyze(library, False)

    def test_fields(self):
        self.assertEqual(sorted(told(analyze(Library.read(CROSS)))[1]),
                         ["reentrant", "requests", "schedule", "threads", "total"])
        self.assertEqual(sorted(told(analyze(Library.read(SAW)))[1]), ["chains", "contexts", "reentrant"])

    def test_conditions(self):
        self.assertIs(bool(analyze(Library.read(SAW))), True)
        self.assertIs(bool(analyze(Library.read(""))), True)
        self.assertIs(bool(analyze(Library.read(CROSS))), False)
        self.assertIs(bool(analyze(Library.read(SAW), reentrant=False)), False)

    def test_lines_are_a_new_list_at_each_call(self):
        for text in (SAW, CROSS):
            verdict = analyze(Library.read(text))
            before = told(verdict)
            lines = verdict.lines()
            self.assertIs(type(lines), list)
            lines.append("more")
            lines[0] = ""
            self.assertEqual(told(verdict), before)

    def test_asking_for_something_else_in_between(self):
        library, other = Library.read(SAW), Library.read(CROSS)
        first = [told(analyze(library, reentrant=reentrant)) for reentrant in KINDS]
        analyze(other)
        kept = analyze(library, reentrant=False)
        before = told(kept)
        analyze(library.deferring("saw"), reentrant=False)
        analyze(library.with_callbacks("saw", []), reentrant=False)
        for _ in range(2):
            self.assertEqual([told(analyze(library, reentrant=reentrant)) for reentrant in KINDS], first)
            analyze(other, reentrant=False)
        self.assertEqual(told(kept), before)
        self.assertEqual(library.written(), SAW)


class TestOverLibraries(VerdictTest):
    def test_random_libraries(self):
        counts = {}
        for seed in range(240):
            library = Library.read([tiny_text, dense_text, random_text][seed % 3](seed))
            for reentrant in KINDS:
                verdict = self.check(library, reentrant)
                key = (reentrant, getattr(verdict, "threads", 0))
                counts[key] = counts.get(key, 0) + 1
        self.assertGreater(min(counts[True, 0], counts[True, 2], counts[False, 0], counts[False, 1]), 10)
        self.assertGreater(counts[False, 2], 4)

    def test_libraries_at_their_bounds(self):
        for seed in range(4):
            for reentrant in KINDS:
                self.check(Library.read(full_text(seed)), reentrant)

    def test_against_a_search_over_the_steps_of_threads(self):
        found = {1: 0, 2: 0}
        none = 0
        for seed in range(70):
            library = Library.read(tiny_text(seed))
            for reentrant in KINDS:
                verdict = analyze(library, reentrant=reentrant)
                threads = 2 if verdict else verdict.threads
                total, reached = least_deadlock(library, threads, reentrant, states=2500)
                if verdict:
                    self.assertFalse(reached)
                    none += 1
                elif reached:
                    self.assertEqual(total, verdict.total)
                    found[threads] += 1
                else:
                    self.assertLess(total, verdict.total)
                if not verdict and threads == 2:
                    self.assertFalse(least_deadlock(library, 1, reentrant, states=1000)[1])
        self.assertGreater(min(none, found[1], found[2]), 10)

    def test_three_threads_against_a_search(self):
        for between in ([], ["invoke h"]):
            library = Library.read(ring_text("bca", between=between))
            for reentrant in KINDS:
                verdict = analyze(library, reentrant=reentrant)
                self.assertEqual(least_deadlock(library, 3, reentrant), (verdict.total, True))
                self.assertFalse(least_deadlock(library, 2, reentrant)[1])
                self.assertFalse(least_deadlock(library, 1, reentrant)[1])

    def test_no_machine_of_a_safe_library_comes_to_a_deadlock(self):
        for seed in range(150):
            library = Library.read([tiny_text, dense_text][seed % 2](seed))
            for reentrant in KINDS:
                if not analyze(library, reentrant=reentrant):
                    continue
                for more in range(3):
                    machine = random_machine(library, random.Random(seed * 3 + more), reentrant=reentrant)
                    self.assertEqual(machine.deadlock(), ())
                    steps = finish(machine)
                    machine.attempt(steps)
                    self.assertTrue(all(machine.state_of(thread).ended for thread in range(len(machine))))

    def test_the_routines_that_are_called_back_are_enough(self):
        changed = 0
        for seed in range(120):
            library = Library.read([tiny_text, dense_text, random_text, full_text][seed % 4](seed))
            for reentrant in KINDS:
                verdict = analyze(library, reentrant=reentrant)
                if verdict:
                    continue
                fewer = library
                for hook, routines in verdict.called_back():
                    fewer = fewer.with_callbacks(hook, routines)
                again = analyze(fewer, reentrant=reentrant)
                self.assertEqual([again.requests, again.total], [verdict.requests, verdict.total])
                changed += fewer.written() != library.written()
        self.assertGreater(changed, 30)

    def test_held_sets_are_in_the_order_of_the_library(self):
        for seed in range(40):
            library = Library.read(full_text(seed))
            verdict = analyze(library, reentrant=seed % 2 == 0)
            for held, _ in getattr(verdict, "requests", ()):
                self.assertEqual(held, held_set(library, held))
