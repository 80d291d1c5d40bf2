"""Point 27: chains."""

import itertools
import unittest

from heldcalls.chains import chains, closes
from heldcalls.cycles import least_cycle
from heldcalls.library import Library
from heldcalls.tables import table_of
from tests.support import full_text, random_table
from tests.test_cycles import nest, ring, table_from


def plain_chains(table):
    """The chains, by trying all tuples of different proper requests."""
    proper = [(held, wanted) for held, wanted in table if held and wanted not in held]
    found = set()
    for many in range(1, len(table.locks) + 1):
        for row in itertools.permutations(proper, many):
            union = set()
            for at, (held, wanted) in enumerate(row):
                if union & set(held) or at > 0 and (row[at - 1][1] in union or row[at - 1][1] not in held):
                    break
                union |= set(held)
            else:
                found.add((tuple(lock for lock in table.locks if lock in union), row[-1][1]))
    return found


def chains_by_rules(table):
    """The smallest set of point 27, made by its words."""
    proper = [(held, wanted) for held, wanted in table if held and wanted not in held]
    known = set(proper)
    while True:
        later = set(known)
        for union, wanted in known:
            for held, lock in proper:
                if wanted not in union and wanted in held and not set(union) & set(held):
                    later.add((tuple(name for name in table.locks if name in union + held), lock))
        if later == known:
            return known
        known = later


def in_order(table, found):
    places = [([table.locks.index(lock) for lock in union], table.locks.index(wanted)) for union, wanted in found]
    return all(first < second for first, second in zip(places, places[1:]))


class TestChains(unittest.TestCase):
    def test_none(self):
        for table in (table_from(), table_from("lock a"), nest("a", "a"), nest("a", "a", "a")):
            self.assertEqual(chains(table), ())

    def test_proper_requests_alone(self):
        table = nest("abc", "a", "b", "c")
        self.assertEqual(chains(table), ((("a",), "b"), (("a", "b"), "c")))
        self.assertEqual([type(chains(table)), type(chains(table)[0]), type(chains(table)[0][0])], [tuple] * 3)

    def test_one_request_more(self):
        table = nest("abc", "a", "b") | nest("abc", "b", "c")
        self.assertEqual(chains(table), ((("a",), "b"), (("a", "b"), "c"), (("b",), "c")))

    def test_several_requests_more(self):
        table = nest("abcd", "d", "c") | nest("abcd", "c", "b") | nest("abcd", "b", "a")
        self.assertEqual(chains(table), ((("b",), "a"), (("b", "c"), "a"), (("b", "c", "d"), "a"), (("c",), "b"),
                                         (("c", "d"), "b"), (("d",), "c")))

    def test_a_chain_that_closes_is_not_lengthened(self):
        # (a b, a) closes; were it lengthened by (a c, d), which has a in common, or (c, d), d would be wanted.
        table = nest("abcd", "a", "b") | nest("abcd", "b", "a") | nest("abcd", "c", "d")
        self.assertEqual(chains(table), (
            (("a",), "b"), (("a", "b"), "a"), (("a", "b"), "b"), (("b",), "a"), (("c",), "d")))
        table = nest("abc", "a", "b") | nest("abc", "b", "a") | nest("abc", "b", "c")
        self.assertEqual(chains(table), (
            (("a",), "b"), (("a", "b"), "a"), (("a", "b"), "b"), (("a", "b"), "c"), (("b",), "a"), (("b",), "c")))

    def test_a_lock_in_common_lengthens_nothing(self):
        table = nest("gab", "g", "a", "b") | nest("gab", "g", "b", "a")
        self.assertEqual(chains(table), ((("g",), "a"), (("g",), "b"), (("g", "a"), "b"), (("g", "b"), "a")))

    def test_the_union_is_in_the_order_of_the_table(self):
        table = nest("cab", "a", "b") | nest("cab", "b", "c")
        self.assertEqual(chains(table), ((("a",), "b"), (("a", "b"), "c"), (("b",), "c")))
        table = nest("bac", "a", "b") | nest("bac", "b", "c")
        self.assertEqual(chains(table), ((("b",), "c"), (("b", "a"), "c"), (("a",), "b")))

    def test_a_chain_that_comes_up_twice(self):
        table = nest("abc", "a", "b", "c") | nest("abc", "b", "c")
        self.assertEqual(chains(table), ((("a",), "b"), (("a", "b"), "c"), (("b",), "c")))

    def test_rings(self):
        for many in range(2, 6):
            found = chains(ring("abcde"[:many]))
            self.assertEqual(len(found), many * many)
            self.assertEqual(sum(closes(chain) for chain in found), many)

    def test_random_tables(self):
        many = []
        for seed in range(40):
            table = random_table(seed, locks="abcd", libraries=3)
            before = list(table)
            found = chains(table)
            self.assertEqual(set(found), plain_chains(table))
            self.assertTrue(in_order(table, found))
            self.assertEqual(list(table), before)
            many.append(len(found))
        self.assertGreater(max(many), 10)

    def test_full_tables(self):
        for seed in range(40):
            table = random_table(seed, libraries=25)
            if seed < 5:
                table = table | table_of(Library.read(full_text(seed)))
            found = chains(table)
            self.assertEqual(set(found), chains_by_rules(table))
            self.assertTrue(in_order(table, found))
            self.assertEqual(any(closes(chain) for chain in found), least_cycle(table) != ())

    def test_a_chain_closes_exactly_if_there_is_a_cycle(self):
        kinds = set()
        for seed in range(150):
            table = random_table(seed, libraries=5)
            closing = any(closes(chain) for chain in chains(table))
            self.assertEqual(closing, least_cycle(table) != ())
            kinds.add(closing)
        self.assertEqual(kinds, {True, False})


class TestCloses(unittest.TestCase):
    def test_closes(self):
        for chain, expected in (((("a",), "b"), False), ((("a",), "a"), True), ((("a", "b"), "b"), True),
                                ((("a", "b"), "c"), False), (((), "a"), False), ((("ab",), "a"), False)):
            self.assertIs(closes(chain), expected)
