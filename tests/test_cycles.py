"""Points 25 and 26: request cycles and the least one."""

import inspect
import itertools
import unittest

from heldcalls.cycles import least_cycle, request_cycles
from heldcalls.library import Library
from heldcalls.tables import table_of
from tests.support import full_text, random_table, text_of


def table_from(*lines):
    return table_of(Library.read(text_of(*lines)))


def nest(locks, *names, hooks=0):
    """Returns the table of a library with one routine that acquires the named locks one after another."""
    return table_from(*[f"lock {lock}" for lock in locks], "hook h", "routine r",
                      *[f"acquire {name}" for name in names[:-1]], *["invoke h"] * hooks, f"acquire {names[-1]}",
                      *[f"release {name}" for name in reversed(names)], "end", "entry r")


def cycles_of(table, threads):
    return list(request_cycles(table, threads=threads))


def is_cycle(cycle):
    """Tells by the words of point 25 whether the tuple is a request cycle, but for where it begins."""
    if len(cycle) < 2 or len(set(cycle)) < len(cycle):
        return False
    if any(held == () or wanted in held for held, wanted in cycle):
        return False
    if any(set(one[0]) & set(two[0]) for one, two in itertools.combinations(cycle, 2)):
        return False
    return all(one[1] in two[0] for one, two in zip(cycle, cycle[1:] + cycle[:1]))


def plain_cycles(table, threads):
    """The request cycles with so many requests, all tuples of requests tried."""
    requests = list(table)
    found = [places for places in itertools.permutations(range(len(requests)), threads)
             if places[0] == min(places) and is_cycle(tuple(requests[at] for at in places))]
    return [tuple(requests[at] for at in places) for places in sorted(found)]


RING = [(("a",), "b"), (("b",), "c"), (("c",), "d"), (("d",), "e"), (("e",), "a")]


def ring(locks):
    """Returns a table in which each lock is wanted by a thread that holds the one before it, and the first last."""
    table = table_from()
    for one, two in zip(locks, locks[1:] + locks[:1]):
        table = table | nest("".join(sorted(locks)), one, two)
    return table


class TestRequestCycles(unittest.TestCase):
    def test_is_a_generator(self):
        self.assertTrue(inspect.isgeneratorfunction(request_cycles))
        self.assertTrue(inspect.isgenerator(request_cycles(table_from(), threads=2)))

    def test_threads_is_given_by_its_name(self):
        with self.assertRaises(TypeError):
            request_cycles(table_from(), 2)
        with self.assertRaises(TypeError):
            request_cycles(table_from())

    def test_numbers_that_no_cycle_has(self):
        table = ring("abcde")
        for threads in (-(10 ** 12), -5, -2, -1, 0, 1, 2, 3, 4, 6, 7, 10 ** 12):
            self.assertEqual(cycles_of(table, threads), [])
        self.assertEqual(cycles_of(table, 5), [tuple(RING)])

    def test_tables_without_cycles(self):
        tables = [table_from(), table_from("lock a"), nest("ab", "a", "b"), nest("a", "a", "a"),
                  nest("ab", "a", "b") | nest("ab", "a", "b"), nest("abc", "a", "b") | nest("abc", "b", "c")]
        for table in tables:
            for threads in range(7):
                self.assertEqual(cycles_of(table, threads), [])

    def test_cycles_of_two_to_five(self):
        for many in range(2, 6):
            table = ring("abcde"[:many])
            found = cycles_of(table, many)
            self.assertEqual(found, [tuple(RING[:many - 1]) + ((("abcde"[many - 1],), "a"),)])
            self.assertEqual({type(found[0]), type(found[0][0]), type(found[0][0][0])}, {tuple})
            for other in {2, 3, 4, 5} - {many}:
                self.assertEqual(cycles_of(table, other), [])

    def test_requests_with_a_lock_in_common_make_no_cycle(self):
        guarded = nest("gab", "g", "a", "b") | nest("gab", "g", "b", "a")
        self.assertEqual(cycles_of(guarded, 2), [])
        self.assertEqual(cycles_of(guarded | nest("gab", "a", "b"), 2),
                         [((("g", "b"), "a"), (("a",), "b"))])
        # The first and the last of (a x, b), (b, c), (c x, a) would both hold x.
        third = nest("abcx", "a", "x", "b") | nest("abcx", "b", "c") | nest("abcx", "c", "x", "a")
        self.assertEqual(cycles_of(third, 2), [((("a",), "x"), (("c", "x"), "a"))])
        self.assertEqual(cycles_of(third, 3), [((("a", "x"), "b"), (("b",), "c"), (("c",), "x"))])

    def test_the_last_request_must_want_a_lock_of_the_first(self):
        table = nest("abc", "a", "b") | nest("abc", "b", "c") | nest("abc", "c", "b")
        self.assertEqual(cycles_of(table, 2), [((("b",), "c"), (("c",), "b"))])
        self.assertEqual(cycles_of(table, 3), [])

    def test_self_requests_and_requests_without_a_lock_do_not_count(self):
        table = nest("ab", "a", "a") | nest("ab", "b", "a", "b")
        self.assertIn((("a",), "a"), table)
        self.assertIn((("a", "b"), "b"), table)
        self.assertEqual([cycles_of(table, many) for many in (1, 2, 3)], [[], [], []])

    def test_order(self):
        table = nest("ab", "a", "b") | nest("ab", "b", "a")
        table = table | nest("abcd", "a", "c") | nest("abcd", "c", "a") | nest("abcd", "b", "c") | nest("abcd", "c", "b")
        a_b, a_c, b_a, b_c, c_a, c_b = [((one,), two) for one, two in itertools.permutations("abc", 2)]
        self.assertEqual(cycles_of(table, 2), [(a_b, b_a), (a_c, c_a), (b_c, c_b)])
        self.assertEqual(cycles_of(table, 3), [(a_b, b_c, c_a), (a_c, c_b, b_a)])

    def test_the_order_is_that_of_the_table(self):
        table = nest("cba", "a", "b") | nest("cba", "b", "a")
        self.assertEqual(cycles_of(table, 2), [((("b",), "a"), (("a",), "b"))])

    def test_asking_twice_and_in_between(self):
        table = random_table(3) | ring("abc") | ring("ab")
        first = request_cycles(table, threads=2)
        second = request_cycles(table, threads=2)
        self.assertEqual([next(first), next(second)], [cycles_of(table, 2)[0]] * 2)
        self.assertEqual(list(first), list(second))
        self.assertEqual(list(first), [])

    def test_random_tables(self):
        counts = {2: 0, 3: 0, 4: 0}
        for seed in range(60):
            table = random_table(seed, locks="abcd", libraries=4)
            if seed % 4 == 0:
                table = table | ring("bdca")
            requests = list(table)
            for threads in counts:
                found = cycles_of(table, threads)
                self.assertEqual(found, plain_cycles(table, threads))
                counts[threads] += len(found)
            self.assertEqual(list(table), requests)
        self.assertTrue(all(counts.values()), counts)

    def test_full_tables(self):
        for seed in range(3):
            table = table_of(Library.read(full_text(seed))) | random_table(seed, libraries=40)
            found = [cycles_of(table, threads) for threads in range(8)]
            self.assertEqual([found[0], found[1], found[6], found[7]], [[]] * 4)
            self.assertEqual(found[2], plain_cycles(table, 2))
            places = {request: at for at, request in enumerate(table)}
            for cycle in itertools.chain(*found):
                self.assertTrue(is_cycle(cycle))
            for cycles in found:
                ats = [tuple(places[request] for request in cycle) for cycle in cycles]
                self.assertEqual(ats, sorted(set(ats)))
                self.assertTrue(all(at[0] == min(at) for at in ats))


class TestLeastCycle(unittest.TestCase):
    def test_none(self):
        for table in (table_from(), nest("ab", "a", "b"), nest("a", "a", "a")):
            self.assertEqual(least_cycle(table), ())

    def test_the_fewest_requests_come_first(self):
        # The cycle of two requests has the sum 10, that of three requests has the sum 3.
        table = ring("abc") | nest("abcde", "d", "e", hooks=4) | nest("abcde", "e", "d", hooks=4)
        self.assertEqual(least_cycle(table), ((("d",), "e"), (("e",), "d")))
        self.assertEqual(least_cycle(ring("abcde")), tuple(RING))

    def test_then_the_smallest_sum(self):
        table = nest("abcd", "a", "b", hooks=3) | nest("abcd", "b", "a") | nest("abcd", "c", "d", hooks=1) | nest(
            "abcd", "d", "c", hooks=1)
        self.assertEqual(least_cycle(table), ((("c",), "d"), (("d",), "c")))
        table = nest("abcd", "a", "b", hooks=1) | nest("abcd", "b", "a") | nest("abcd", "c", "d", hooks=1) | nest(
            "abcd", "d", "c", hooks=1)
        self.assertEqual(least_cycle(table), ((("a",), "b"), (("b",), "a")))

    def test_then_the_first(self):
        table = nest("abcd", "c", "d") | nest("abcd", "d", "c") | nest("abcd", "a", "b") | nest("abcd", "b", "a")
        self.assertEqual(least_cycle(table), ((("a",), "b"), (("b",), "a")))
        table = nest("dcba", "c", "d") | nest("dcba", "d", "c") | nest("dcba", "a", "b") | nest("dcba", "b", "a")
        self.assertEqual(least_cycle(table), ((("d",), "c"), (("c",), "d")))

    def test_random_tables(self):
        kinds = []
        for seed in range(120):
            table = random_table(seed)
            cycles = [cycle for threads in range(2, 6) for cycle in cycles_of(table, threads)]
            places = {request: at for at, request in enumerate(table)}
            expected = min(cycles, default=(), key=lambda cycle: (
                len(cycle), sum(table[request] for request in cycle), [places[request] for request in cycle]))
            self.assertEqual(least_cycle(table), expected)
            kinds.append(len(expected))
        self.assertGreaterEqual(set(kinds), {0, 2, 3})
