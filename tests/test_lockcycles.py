"""Point 28: lock cycles."""

import itertools
import random
import unittest

from heldcalls.lockcycles import shortest_lock_cycle


def plain_lock_cycle(locks, pairs):
    """The shortest lock cycle, all tuples of locks tried."""
    for many in range(2, len(locks) + 1):
        found = [places for places in itertools.permutations(range(len(locks)), many)
                 if places[0] == min(places)
                 and all((locks[one], locks[two]) in pairs for one, two in zip(places, places[1:] + places[:1]))]
        if found:
            return tuple(locks[at] for at in min(found))
    return ()


class TestShortestLockCycle(unittest.TestCase):
    def test_none(self):
        for locks, pairs in (
            ((), []), ((), ()), (("a",), []), (("a", "b"), [("a", "b")]), (("a", "b"), [("b", "a"), ("b", "a")]),
            (("a", "b", "c"), [("a", "b"), ("b", "c"), ("a", "c")]),
            (tuple("abcde"), [(one, two) for one in "abcde" for two in "abcde" if one < two]),
            (tuple("abcde"), [(one, two) for one in "abcde" for two in "abcde" if one > two]),
        ):
            self.assertEqual(shortest_lock_cycle(locks, pairs), ())
            self.assertEqual(shortest_lock_cycle(locks, tuple(pairs)), ())

    def test_two_to_five_locks(self):
        for many in range(2, 6):
            locks = tuple("abcde"[:many])
            pairs = list(zip(locks, locks[1:] + locks[:1]))
            for given in (pairs, tuple(pairs), pairs[::-1], pairs * 3):
                found = shortest_lock_cycle(locks, given)
                self.assertEqual(found, locks)
                self.assertIs(type(found), tuple)
            for at in range(many):
                self.assertEqual(shortest_lock_cycle(locks, pairs[:at] + pairs[at + 1:]), ())

    def test_it_begins_with_its_first_lock(self):
        pairs = [("a", "b"), ("b", "c"), ("c", "a")]
        for locks, expected in (("abc", "abc"), ("bca", "bca"), ("cab", "cab"), ("acb", "abc"), ("xbca", "bca"),
                                ("cxba", "cab")):
            self.assertEqual(shortest_lock_cycle(tuple(locks), pairs), tuple(expected))

    def test_the_fewest_locks_come_first(self):
        pairs = [("a", "b"), ("b", "c"), ("c", "a"), ("d", "e"), ("e", "d")]
        self.assertEqual(shortest_lock_cycle(tuple("abcde"), pairs), ("d", "e"))
        self.assertEqual(shortest_lock_cycle(tuple("abcde"), pairs[:3] + pairs[4:]), ("a", "b", "c"))

    def test_then_the_first_one(self):
        both = [(one, two) for one in "abcd" for two in "abcd" if one != two]
        self.assertEqual(shortest_lock_cycle(tuple("abcd"), both), ("a", "b"))
        self.assertEqual(shortest_lock_cycle(tuple("dcab"), both), ("d", "c"))
        pairs = [("a", "c"), ("c", "b"), ("b", "a"), ("a", "b"), ("b", "d"), ("d", "a")]
        self.assertEqual(shortest_lock_cycle(tuple("abcd"), pairs), ("a", "b"))
        self.assertEqual(shortest_lock_cycle(tuple("abcd"), [*pairs[:2], ("b", "d"), ("d", "a"), ("b", "a")]),
                         ("a", "c", "b"))
        pairs = [("a", "d"), ("d", "b"), ("b", "a"), ("a", "c"), ("c", "b")]
        self.assertEqual(shortest_lock_cycle(tuple("abcd"), pairs), ("a", "c", "b"))

    def test_the_arguments_stay_what_they_were(self):
        locks, pairs = ("a", "b"), [("b", "a"), ("a", "b"), ("b", "a")]
        self.assertEqual(shortest_lock_cycle(locks, pairs), ("a", "b"))
        self.assertEqual([locks, pairs], [("a", "b"), [("b", "a"), ("a", "b"), ("b", "a")]])

    def test_all_pairs_of_three_locks(self):
        pairs = list(itertools.permutations("abc", 2))
        for chosen in itertools.product((False, True), repeat=len(pairs)):
            given = list(itertools.compress(pairs, chosen))
            for locks in itertools.permutations("abc"):
                self.assertEqual(shortest_lock_cycle(locks, given), plain_lock_cycle(locks, given))

    def test_random_pairs(self):
        lengths = set()
        chance = random.Random(1)
        pairs = list(itertools.permutations("vwxyz", 2))
        for _ in range(600):
            given = chance.choices(pairs, k=chance.randint(0, 12))
            ring = chance.sample("vwxyz", 5)
            if chance.random() < 0.2:
                given = given[:3] + list(zip(ring, ring[1:] + ring[:1]))
            locks = tuple(chance.sample("vwxyz", 5))
            found = shortest_lock_cycle(locks, given)
            self.assertEqual(found, plain_lock_cycle(locks, given))
            lengths.add(len(found))
        self.assertEqual(lengths, {0, 2, 3, 4, 5})
