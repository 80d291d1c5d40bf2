"""Point 40: certificates and their gaps."""

import inspect
import itertools
import random
import unittest

from heldcalls.certificates import gaps
from heldcalls.chains import chains
from heldcalls.contexts import contexts
from heldcalls.cycles import least_cycle
from heldcalls.library import Library
from heldcalls.tables import table_of
from tests.support import dense_text, full_text, random_text, text_of
from tests.walks import some_library

CROSS = text_of("lock a", "lock b", "routine left", "acquire a", "acquire b", "release b", "release a", "end",
                "routine right", "acquire b", "acquire a", "release a", "release b", "end",
                "entry left", "entry right")


def gaps_of(text, given_contexts=(), given_chains=(), **kind):
    return list(gaps(Library.read(text), given_contexts, given_chains, **kind))


def own_certificate(library):
    return [(routine, held) for routine, held, _ in contexts(library)], list(chains(table_of(library)))


def gaps_by_words(library, given_contexts, given_chains, reentrant):
    """The gaps by the words of the point, step by step."""
    found, proper = [], []

    def union(*held):
        return tuple(lock for lock in library.locks if any(lock in each for each in held))

    def gap(word, one, two):
        missing = {"context": (one, two) not in given_contexts, "chain": (one, two) not in given_chains}
        if missing.get(word, True) and (word, one, two) not in found:
            found.append((word, one, two))

    for entry in library.entries:
        gap("context", entry, ())
    for routine, held in given_contexts:
        own = []
        for word, name in library.statements(routine):
            there = union(held, own)
            if word == "acquire":
                if name not in there and there != ():
                    gap("chain", there, name)
                    proper.append((there, name))
                if name in there and not reentrant:
                    gap("self", there, name)
                own.append(name)
            if word == "release":
                own.pop()
            if word in ("call", "maybe"):
                gap("context", name, there)
            if word == "invoke":
                for callback in library.callbacks(name):
                    gap("context", callback, () if library.is_deferred(name) else there)
    for whole, wanted in given_chains:
        if wanted in whole:
            gap("cycle", whole, wanted)
            continue
        for held, lock in proper:
            if wanted in held and not set(whole) & set(held):
                gap("chain", union(whole, held), lock)
    return found


class TestEntries(unittest.TestCase):
    def test_each_entry_in_order(self):
        text = text_of("routine p", "end", "routine q", "end", "routine r", "end", "entry r", "entry p")
        self.assertEqual(gaps_of(text), [("context", "r", ()), ("context", "p", ())])
        self.assertEqual(gaps_of(text, [("r", ())]), [("context", "p", ())])
        self.assertEqual(gaps_of(text, [("p", ()), ("r", ())]), [])
        self.assertEqual(gaps_of(text, [("q", ())]), [("context", "r", ()), ("context", "p", ())])

    def test_no_entries(self):
        for text in ("", "lock a", "routine p\nend"):
            self.assertEqual(gaps_of(text), [])

    def test_another_held_set_is_another_context(self):
        text = "lock a\nroutine p\nend\nentry p"
        self.assertEqual(gaps_of(text, [("p", ("a",))]), [("context", "p", ())])


class TestContexts(unittest.TestCase):
    text = text_of("lock c", "lock b", "lock a", "hook now p q", "deferred late q p", "hook none", "routine p", "end",
                   "routine q", "end", "routine r", "acquire a", "acquire c", "call p", "maybe q", "invoke now",
                   "invoke late", "invoke none", "release c", "release a", "end", "entry r")

    def test_statements_in_order(self):
        self.assertEqual(gaps_of(self.text, [("r", ())]), [
            ("chain", ("a",), "c"), ("context", "p", ("c", "a")), ("context", "q", ("c", "a")),
            ("context", "q", ()), ("context", "p", ())])

    def test_locks_of_the_context_count(self):
        self.assertEqual(gaps_of(self.text, [("r", ("b",)), ("r", ())]), [
            ("chain", ("b",), "a"), ("chain", ("b", "a"), "c"), ("context", "p", ("c", "b", "a")),
            ("context", "q", ("c", "b", "a")), ("context", "q", ()), ("context", "p", ()),
            ("chain", ("a",), "c"), ("context", "p", ("c", "a")), ("context", "q", ("c", "a"))])

    def test_contexts_in_the_given_order(self):
        text = text_of("lock a", "lock b", "routine p", "acquire a", "maybe q", "release a", "end",
                       "routine q", "acquire b", "maybe p", "release b", "end", "entry p", "entry q")
        self.assertEqual(gaps_of(text, [("p", ()), ("q", ())]), [
            ("context", "q", ("a",)), ("context", "p", ("b",))])
        self.assertEqual(gaps_of(text, [("q", ()), ("p", ())]), [
            ("context", "p", ("b",)), ("context", "q", ("a",))])

    def test_callbacks_in_their_order(self):
        text = text_of("lock a", "hook h r p q", "routine p", "end", "routine q", "end", "routine r", "acquire a",
                       "invoke h", "release a", "end", "entry r")
        self.assertEqual(gaps_of(text, [("r", ())]), [("context", name, ("a",)) for name in "rpq"])
        self.assertEqual(gaps_of(text.replace("hook", "deferred"), [("r", ())]),
                         [("context", name, ()) for name in "pq"])

    def test_strange_contexts_are_gone_through(self):
        text = text_of("lock a", "lock b", "routine p", "acquire a", "release a", "end", "routine q", "call p", "end",
                       "routine r", "end", "entry r")
        self.assertEqual(gaps_of(text, [("q", ("b",)), ("r", ()), ("p", ("b",))]), [("chain", ("b",), "a")])

    def test_a_context_that_is_given_twice(self):
        twice = [("r", ()), ("r", ("b",)), ("r", ()), ("r", ("b",))]
        self.assertEqual(gaps_of(self.text, twice), gaps_of(self.text, twice[:2]))

    def test_a_gap_comes_once(self):
        text = text_of("lock a", "lock b", "hook h p", "routine p", "acquire a", "maybe p", "maybe p", "invoke h",
                       "acquire b", "release b", "acquire b", "release b", "release a", "end", "entry p")
        self.assertEqual(gaps_of(text, [("p", ())]), [("context", "p", ("a",)), ("chain", ("a",), "b")])
        # Also if it was a gap of an earlier step.
        self.assertEqual(gaps_of(text.replace("maybe p", "invoke h").replace("hook", "deferred")), [
            ("context", "p", ())])
        text = text_of("lock a", "routine p", "maybe p", "end", "entry p")
        self.assertEqual(gaps_of(text, [("p", ("a",))]), [("context", "p", ())])
        self.assertEqual(gaps_of(text_of("lock a", "deferred h p", "routine p", "invoke h", "end", "entry p"),
                                 [("p", ("a",))]), [("context", "p", ())])


class TestSelf(unittest.TestCase):
    text = text_of("lock a", "lock b", "routine p", "acquire b", "acquire a", "acquire b", "release b", "release a",
                   "acquire b", "release b", "release b", "end", "entry p")

    def test_only_where_machines_are_not_reentrant(self):
        certificate = [("p", ())], [(("b",), "a")]
        self.assertEqual(gaps_of(self.text, *certificate), [])
        self.assertEqual(gaps_of(self.text, *certificate, reentrant=True), [])
        self.assertEqual(gaps_of(self.text, *certificate, reentrant=False), [
            ("self", ("a", "b"), "b"), ("self", ("b",), "b")])

    def test_between_other_gaps(self):
        self.assertEqual(gaps_of(self.text, [("p", ()), ("p", ("a",))], reentrant=False), [
            ("chain", ("b",), "a"), ("self", ("a", "b"), "b"), ("self", ("b",), "b"), ("chain", ("a",), "b"),
            ("self", ("a", "b"), "a")])

    def test_a_given_chain_does_not_help(self):
        found = gaps_of(self.text, [("p", ())], [(("b",), "a"), (("b",), "b"), (("a", "b"), "b")], reentrant=False)
        self.assertEqual(found, [("self", ("a", "b"), "b"), ("self", ("b",), "b"), ("cycle", ("b",), "b"),
                                 ("cycle", ("a", "b"), "b")])

    def test_reentrant_is_given_by_its_name(self):
        with self.assertRaises(TypeError):
            gaps(Library.read(self.text), [], [], False)


class TestChains(unittest.TestCase):
    both = [("left", ()), ("right", ())]

    def test_chains_that_are_lengthened(self):
        self.assertEqual(gaps_of(CROSS, self.both, [(("a",), "b"), (("b",), "a")]),
                         [("chain", ("a", "b"), "a"), ("chain", ("a", "b"), "b")])
        self.assertEqual(gaps_of(CROSS, self.both, [(("b",), "a"), (("a",), "b")]),
                         [("chain", ("a", "b"), "b"), ("chain", ("a", "b"), "a")])

    def test_chains_that_close(self):
        given = [(("a", "b"), "b"), (("b",), "a"), (("a", "b"), "a"), (("a",), "b")]
        for reentrant in (True, False):
            self.assertEqual(gaps_of(CROSS, self.both, given, reentrant=reentrant),
                             [("cycle", ("a", "b"), "b"), ("cycle", ("a", "b"), "a")])

    def test_requests_whose_chains_are_missing_count(self):
        self.assertEqual(gaps_of(CROSS, self.both, [(("b",), "a")]),
                         [("chain", ("a",), "b"), ("chain", ("a", "b"), "b")])

    def test_requests_of_all_given_contexts_and_of_no_others(self):
        self.assertEqual(gaps_of(CROSS, [("right", ())], [(("a",), "b"), (("b",), "a")]),
                         [("context", "left", ()), ("chain", ("a", "b"), "a")])
        self.assertEqual(gaps_of(CROSS, [], [(("a",), "b"), (("b",), "a")]),
                         [("context", "left", ()), ("context", "right", ())])

    def test_in_the_order_of_the_requests(self):
        text = text_of("lock a", "lock b", "lock c", "lock d", "routine p", "acquire d", "acquire a", "release a",
                       "acquire c", "release c", "release d", "end", "routine q", "acquire b", "acquire d",
                       "acquire a", "release a", "release d", "release b", "end", "entry p", "entry q")
        given = [(("c",), "d"), (("d",), "a"), (("d",), "c"), (("b",), "d"), (("b", "d"), "a")]
        self.assertEqual(gaps_of(text, [("q", ()), ("p", ())], given), [
            ("chain", ("b", "c", "d"), "a"), ("chain", ("c", "d"), "a"), ("chain", ("c", "d"), "c"),
            ("chain", ("b", "d"), "c")])

    def test_strange_chains_are_gone_through(self):
        text = text_of("lock a", "lock b", "lock c", "routine p", "acquire a", "acquire b", "release b", "release a",
                       "end", "entry p")
        self.assertEqual(gaps_of(text, [("p", ())], [(("a",), "b"), (("c",), "a"), ((), "a"), (("b", "c"), "a"),
                                                     ((), "c"), (("c",), "c"), (("a", "c"), "b")]),
                         [("chain", ("a", "b", "c"), "b"), ("cycle", ("c",), "c")])
        self.assertEqual(gaps_of(text, [("p", ())], [(("a",), "b"), (("c",), "a")]), [("chain", ("a", "c"), "b")])

    def test_no_lock_in_both(self):
        text = text_of("lock g", "lock a", "lock b", "routine p", "acquire g", "acquire a", "acquire b", "release b",
                       "release a", "release g", "end", "routine q", "acquire g", "acquire b", "acquire a",
                       "release a", "release b", "release g", "end", "entry p", "entry q")
        given = [(("g",), "a"), (("g",), "b"), (("g", "a"), "b"), (("g", "b"), "a")]
        self.assertEqual(gaps_of(text, [("p", ()), ("q", ())], given), [])

    def test_a_chain_that_is_given_twice(self):
        given = [(("b",), "a"), (("b",), "a")]
        self.assertEqual(gaps_of(CROSS, self.both, given), gaps_of(CROSS, self.both, given[:1]))
        given = [(("a", "b"), "b")] * 2
        self.assertEqual(gaps_of(CROSS, self.both, given)[2:], [("cycle", ("a", "b"), "b")])

    def test_a_missing_chain_of_a_request_is_not_told_again(self):
        text = text_of("lock a", "lock b", "lock c", "routine p", "acquire b", "acquire c", "release c", "release b",
                       "end", "routine q", "acquire a", "acquire b", "acquire c", "release c", "release b",
                       "release a", "end", "entry p", "entry q")
        self.assertEqual(gaps_of(text, [("p", ()), ("q", ())], [(("a",), "b")]), [
            ("chain", ("b",), "c"), ("chain", ("a", "b"), "c")])


class TestGenerator(unittest.TestCase):
    def test_is_a_generator_of_tuples(self):
        self.assertTrue(inspect.isgeneratorfunction(gaps))
        for gap in gaps_of(CROSS, TestChains.both, reentrant=False):
            self.assertEqual([type(gap), len(gap), type(gap[1])], [tuple, 3, tuple])

    def test_it_takes_in_both_when_the_first_gap_is_asked_for(self):
        library = Library.read(CROSS)
        whole = list(gaps(library, TestChains.both, [(("a",), "b"), (("b",), "a")]))
        given_contexts, given_chains = [], [(("x",), "x")]
        found = gaps(library, given_contexts, given_chains)
        given_contexts.extend(TestChains.both)
        given_chains[:] = [(("a",), "b"), (("b",), "a")]
        first = next(found)
        given_contexts.clear()
        given_chains.clear()
        given_chains.append((("b",), "b"))
        self.assertEqual([first, *found], whole)

    def test_the_lists_stay_as_they_are(self):
        for kind in (list, tuple):
            given_contexts, given_chains = kind(TestChains.both), kind([(("a",), "b"), (("b",), "a")])
            before = kind(given_contexts), kind(given_chains)
            found = gaps_of(CROSS, given_contexts, given_chains)
            self.assertEqual(gaps_of(CROSS, given_contexts, given_chains), found)
            self.assertEqual((given_contexts, given_chains), before)
            self.assertEqual(len(found), 2)

    def test_two_at_once(self):
        library = Library.read(CROSS)
        pairs = list(zip(gaps(library, [], []), gaps(library, TestChains.both, [])))
        self.assertEqual(pairs, [(("context", "left", ()), ("chain", ("a",), "b")),
                                 (("context", "right", ()), ("chain", ("b",), "a"))])


class TestWholeCertificates(unittest.TestCase):
    def test_the_own_contexts_and_chains_have_only_self_and_cycle_gaps(self):
        safe = 0
        for seed in range(150):
            library = some_library(seed)
            table = table_of(library)
            given = own_certificate(library)
            closed = [("cycle", union, wanted) for union, wanted in given[1] if wanted in union]
            self.assertEqual(list(gaps(library, *given)), closed)
            self.assertEqual(closed == [], least_cycle(table) == ())
            found = list(gaps(library, *given, reentrant=False))
            self.assertEqual({gap[1:] for gap in found if gap[0] == "self"}, set(table.self_requests()))
            self.assertEqual([gap for gap in found if gap[0] != "self"], closed)
            safe += closed == []
        self.assertGreater(safe, 30)

    def test_each_context_and_each_chain_is_needed(self):
        for seed in range(60):
            library = some_library(seed)
            given = own_certificate(library)
            if any(wanted in union for union, wanted in given[1]):
                continue
            for which, word in ((0, "context"), (1, "chain")):
                for at, row in enumerate(given[which]):
                    fewer = [list(given[0]), list(given[1])]
                    del fewer[which][at]
                    self.assertIn((word, *row), list(gaps(library, *fewer)))

    def test_random_certificates_by_the_words_of_the_point(self):
        many = 0
        for seed in range(150):
            library = Library.read([dense_text, random_text, full_text][seed % 3](seed))
            chance = random.Random(seed)
            own_contexts, own_chains = own_certificate(library)
            sets = [tuple(lock for lock in library.locks if chance.random() < 0.4) for _ in range(6)]
            more_contexts = list(itertools.product(library.routines, sets))
            more_chains = list(itertools.product(sets, library.locks))
            given_contexts = some(chance, own_contexts, 0.7) + some(chance, more_contexts, 0.2)
            given_chains = some(chance, own_chains, 0.7) + some(chance, more_chains, 0.2)
            for given in (given_contexts, given_chains):
                given += some(chance, given, 0.2)
                chance.shuffle(given)
            for reentrant in (True, False):
                found = list(gaps(library, given_contexts, given_chains, reentrant=reentrant))
                self.assertEqual(found, gaps_by_words(library, given_contexts, given_chains, reentrant))
                many += len(found)
        self.assertGreater(many, 1000)


def some(chance, rows, share):
    return [row for row in rows if chance.random() < share]
