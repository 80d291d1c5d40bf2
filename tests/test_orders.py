"""Points 46 and 47: orders of the locks."""

import itertools
import unittest

from heldcalls.errors import NoLockOrder
from heldcalls.library import Library
from heldcalls.lockcycles import shortest_lock_cycle
from heldcalls.orders import lock_order
from heldcalls.tables import table_of
from heldcalls.verdicts import analyze
from tests.support import dense_text, full_text, raised, random_table, random_text, text_of, tiny_text
from tests.test_cycles import nest, ring, table_from


def pairs_of(table):
    return [(lock, wanted) for held, wanted in table if held and wanted not in held for lock in held]


def order_by_words(table):
    """The order of point 46: of all that keep to the pairs, the first one as tuples of positions are compared."""
    for order in itertools.permutations(table.locks):
        if all(order.index(before) < order.index(after) for before, after in pairs_of(table)):
            return order
    return None


class TestLockOrder(unittest.TestCase):
    def test_no_locks_and_no_requests(self):
        for text, expected in (("", ()), ("lock a", ("a",)), ("lock c\nlock a\nlock b", ("c", "a", "b"))):
            found = lock_order(table_of(Library.read(text)))
            self.assertEqual([found, type(found)], [expected, tuple])

    def test_again_and_again_the_first_lock_that_may_come(self):
        self.assertEqual(lock_order(nest("abc", "c", "a")), ("b", "c", "a"))
        self.assertEqual(lock_order(nest("abcde", "e", "c", "a")), ("b", "d", "e", "c", "a"))
        self.assertEqual(lock_order(nest("abcde", "c", "b") | nest("abcde", "e", "d")), ("a", "c", "b", "e", "d"))
        self.assertEqual(lock_order(nest("abcde", "d", "a") | nest("abcde", "b", "d")), ("b", "c", "d", "a", "e"))

    def test_the_order_is_that_of_the_table(self):
        self.assertEqual(lock_order(table_from("lock z", "lock a", "lock m")), ("z", "a", "m"))
        self.assertEqual(lock_order(nest("ca", "a", "c") | nest("bac", "c", "b")), ("a", "c", "b"))

    def test_every_lock_of_the_held_set_comes_before(self):
        table = nest("dcba", "a", "b", "c", "d")
        self.assertEqual(lock_order(table), ("a", "b", "c", "d"))
        # The pair (b, a) comes of the request that holds c, too.
        table = nest("abcd", "b", "c", "a")
        self.assertEqual(lock_order(table), ("b", "c", "a", "d"))

    def test_self_requests_do_not_count(self):
        self.assertEqual(lock_order(nest("ab", "b", "a", "b")), ("b", "a"))
        self.assertEqual(lock_order(nest("ab", "a", "a")), ("a", "b"))

    def test_requests_with_nothing_held_do_not_count(self):
        table = table_from("lock a", "lock b", "routine r", "acquire b", "release b", "acquire a", "release a", "end",
                           "entry r")
        self.assertEqual(lock_order(table), ("a", "b"))

    def test_joined_tables(self):
        one, two = nest("bc", "c", "b"), nest("ac", "c", "a")
        self.assertEqual(lock_order(one | two), ("c", "b", "a"))
        self.assertEqual(lock_order(two | one), ("c", "a", "b"))
        # Joining changes neither of the two.
        self.assertEqual([lock_order(one), lock_order(two)], [("c", "b"), ("c", "a")])


class TestNoLockOrder(unittest.TestCase):
    def cycle(self, table):
        found = raised(NoLockOrder, lock_order, table)
        self.assertEqual(list(found), ["cycle"])
        self.assertEqual(type(found["cycle"]), tuple)
        return found["cycle"]

    def test_rings(self):
        for locks in ("ab", "abc", "acb", "ecdab"):
            first = locks.index(min(locks))
            self.assertEqual(self.cycle(ring(locks)), tuple(locks[first:] + locks[:first]))

    def test_the_shortest_lock_cycle(self):
        self.assertEqual(self.cycle(ring("abc") | nest("abc", "b", "a")), ("a", "b"))
        self.assertEqual(self.cycle(ring("de") | ring("bc")), ("d", "e"))
        self.assertEqual(self.cycle(ring("abcde") | ring("ace")), ("a", "c", "e"))

    def test_a_safe_library_may_have_no_order(self):
        text = text_of("lock g", "lock a", "lock b", "routine left", "acquire g", "acquire a", "acquire b",
                       "release b", "release a", "release g", "end", "routine right", "acquire g", "acquire b",
                       "acquire a", "release a", "release b", "release g", "end", "entry left", "entry right")
        library = Library.read(text)
        self.assertTrue(analyze(library))
        self.assertEqual(self.cycle(table_of(library)), ("a", "b"))
        self.assertEqual(analyze(library.keeping(["a", "b"])).threads, 2)

    def test_of_joined_tables(self):
        self.assertEqual(self.cycle(nest("ab", "a", "b") | nest("ba", "b", "a")), ("a", "b"))
        self.assertEqual(self.cycle(nest("ba", "b", "a") | nest("ab", "a", "b")), ("b", "a"))


class TestOverTables(unittest.TestCase):
    def test_random_tables(self):
        none = 0
        for seed in range(200):
            table = random_table(seed)
            expected = order_by_words(table)
            if expected is None:
                none += 1
                self.assertEqual(raised(NoLockOrder, lock_order, table),
                                 {"cycle": shortest_lock_cycle(table.locks, pairs_of(table))})
            else:
                self.assertEqual(lock_order(table), expected)
        self.assertGreater(none, 40)
        self.assertLess(none, 160)

    def test_an_order_exactly_if_all_parts_are_safe(self):
        orders = none = 0
        for seed in range(100):
            library = Library.read([tiny_text, dense_text, random_text, full_text][seed % 4](seed))
            parts = [part for many in range(len(library.locks) + 1)
                     for part in itertools.combinations(library.locks, many)]
            safe = all(analyze(library.keeping(part)) for part in parts)
            try:
                lock_order(table_of(library))
                self.assertTrue(safe)
                orders += 1
            except NoLockOrder as error:
                self.assertFalse(safe)
                verdict = analyze(library.keeping(error.cycle))
                self.assertFalse(verdict)
                self.assertEqual(verdict.threads, len(error.cycle))
                none += 1
        self.assertGreater(min(orders, none), 20)
