"""Points 22 and 23: tables of requests, and tables joined."""

import itertools
import unittest

from heldcalls.contexts import contexts
from heldcalls.errors import NoRequest, Overfull, Repeated
from heldcalls.layout import lengths_before, locks_at
from heldcalls.library import Library
from heldcalls.tables import Table, table_of
from tests.moves import Search, held_set
from tests.support import dense_text, full_text, raised, random_text, text_of


def table_from(*lines):
    return table_of(Library.read(text_of(*lines)))


def rows_of(table):
    """Returns all that a table tells of its requests: the list of pairs (request, length)."""
    return [(request, table[request]) for request in table]


def told(table):
    return table.locks, rows_of(table), len(table), table.self_requests()


def requests_of_point_22(library):
    """The requests with their lengths, by the words of the point."""
    lengths = {}
    for routine, held, length in contexts(library):
        for (word, name), own, before in zip(library.statements(routine), locks_at(library, routine),
                                             lengths_before(library, routine)):
            if word == "acquire":
                lengths.setdefault((held_set(library, held + own), name), []).append(length + before)
    return {request: min(found) for request, found in lengths.items()}


def joined_of_point_23(first, second):
    """The locks and the requests with their lengths of two tables joined, by the words of the point."""
    locks = first.locks + tuple(lock for lock in second.locks if lock not in first.locks)
    lengths = {}
    for table in (first, second):
        for held, wanted in table:
            request = (tuple(lock for lock in locks if lock in held), wanted)
            lengths.setdefault(request, []).append(table[held, wanted])
    return locks, {request: min(found) for request, found in lengths.items()}


def in_order(locks, requests):
    """Tells whether the requests come in the order of point 22, each once."""
    places = [([locks.index(lock) for lock in held], locks.index(wanted)) for held, wanted in requests]
    return all(first < second for first, second in zip(places, places[1:]))


NEST = ("lock a", "lock b", "lock c", "hook h low", "routine low", "acquire a", "acquire c", "release c", "release a",
        "end", "routine run", "acquire c", "acquire b", "invoke h", "release b", "acquire c", "release c", "release c",
        "call low", "end", "entry run")


class TestTableOf(unittest.TestCase):
    def test_requests_and_lengths(self):
        table = table_from(*NEST)
        self.assertIs(type(table), Table)
        self.assertEqual(table.locks, ("a", "b", "c"))
        self.assertEqual(rows_of(table), [
            (((), "a"), 8), (((), "c"), 0), ((("a",), "c"), 9), ((("a", "b", "c"), "c"), 4), ((("b", "c"), "a"), 3),
            ((("c",), "b"), 1), ((("c",), "c"), 4),
        ])
        self.assertEqual(len(table), 7)

    def test_tables_without_requests(self):
        for text in ("", "lock a", "lock a\nroutine r\nacquire a\nrelease a\nend", "routine r\nend\nentry r"):
            table = table_of(Library.read(text))
            self.assertEqual([list(table), len(table), table.self_requests()], [[], 0, ()])
            self.assertEqual(table.locks, Library.read(text).locks)
            self.assertEqual(raised(NoRequest, table.__getitem__, ((), "a")), {"request": ((), "a")})
            self.assertIs(((), "a") in table, False)

    def test_the_smallest_length_counts(self):
        lines = ("lock a", "routine r", "acquire a", "release a", "end", "routine late", "call r", "call r", "end",
                 "routine run", "call late", "acquire a", "release a", "end")
        self.assertEqual(rows_of(table_from(*lines, "entry run")), [(((), "a"), 2)])
        self.assertEqual(rows_of(table_from(*lines, "entry run", "entry late")), [(((), "a"), 1)])
        self.assertEqual(rows_of(table_from(*lines, "entry run", "entry r")), [(((), "a"), 0)])

    def test_two_acquires_in_one_routine(self):
        lines = ("lock a", "lock b", "routine r", "acquire a", "maybe r", "acquire b", "release b", "acquire b",
                 "release b", "release a", "end", "entry r")
        self.assertEqual(rows_of(table_from(*lines)), [
            (((), "a"), 0), ((("a",), "a"), 2), ((("a",), "b"), 2)])

    def test_the_order_is_that_of_the_locks(self):
        lines = ("lock c", "lock a", "lock b", "routine r", "acquire a", "acquire b", "acquire c", "release c",
                 "release b", "acquire c", "acquire b", "release b", "release c", "release a", "end",
                 "routine q", "acquire c", "release c", "end", "entry r", "entry q")
        self.assertEqual(list(table_from(*lines)), [
            ((), "c"), ((), "a"), (("c", "a"), "b"), (("a",), "c"), (("a",), "b"), (("a", "b"), "c")])

    def test_random_libraries(self):
        many = []
        for seed in range(200):
            library = Library.read(dense_text(seed) if seed % 2 else random_text(seed))
            table = table_of(library)
            self.assertEqual(dict(rows_of(table)), requests_of_point_22(library))
            self.assertTrue(in_order(library.locks, list(table)))
            self.assertEqual([table.locks, len(table)], [library.locks, len(list(table))])
            self.assertEqual(table.self_requests(), tuple(request for request in table if request[1] in request[0]))
            many.append(len(table))
        self.assertGreater(sum(count > 2 for count in many), 40)

    def test_against_a_search_over_the_moves(self):
        for seed in range(2000, 2060):
            library = Library.read(dense_text(seed))
            table = table_of(library)
            search = Search(library, 30, states=4000)
            self.assertEqual({request: length for request, length in rows_of(table) if length <= search.most},
                             {request: length for request, length in search.requests.items() if length <= search.most})

    def test_libraries_at_their_bounds(self):
        for seed in range(4):
            library = Library.read(full_text(seed))
            self.assertEqual(dict(rows_of(table_of(library))), requests_of_point_22(library))

    def test_of_libraries_made_from_it(self):
        library = Library.read(text_of(*NEST))
        before = told(table_of(library))
        self.assertNotIn((("b", "c"), "a"), table_of(library.deferring("h")))
        self.assertEqual(table_of(library.keeping(["c", "b"])).locks, ("b", "c"))
        self.assertEqual(list(table_of(library.keeping(["c"]))), [((), "c"), (("c",), "c")])
        self.assertEqual(told(table_of(library)), before)


class TestTable(unittest.TestCase):
    def test_iterating_twice_gives_the_same(self):
        table = table_from(*NEST)
        first = list(table)
        self.assertEqual([list(table), list(table)], [first, first])
        pairs = [(one, two) for one in table for two in table]
        self.assertEqual(len(pairs), len(table) ** 2)

    def test_tuples_and_integers(self):
        table = table_from(*NEST)
        self.assertEqual({(type(request), type(request[0]), type(request[1])) for request in table},
                         {(tuple, tuple, str)})
        self.assertEqual({type(table[request]) for request in table}, {int})
        self.assertEqual([type(table.locks), type(table.self_requests()), type(len(table))], [tuple, tuple, int])

    def test_in_and_index(self):
        table = table_from(*NEST)
        for request in list(table):
            self.assertIs(request in table, True)
        self.assertEqual(table[("b", "c"), "a"], 3)
        for request in (((), "b"), (("c", "b"), "a"), (("a", "c", "b"), "c"), (("c", "c"), "b"), (("a",), "a"),
                        (("none",), "a"), ((), "none"), ((), ""), (("b", "c"), "b")):
            self.assertIs(request in table, False)
            self.assertEqual(raised(NoRequest, table.__getitem__, request), {"request": request})

    def test_self_requests(self):
        table = table_from(*NEST)
        self.assertEqual(table.self_requests(), ((("a", "b", "c"), "c"), (("c",), "c")))
        self.assertEqual(table_from("lock a", "routine r", "acquire a", "release a", "end", "entry r").self_requests(),
                         ())

    def test_what_was_returned_stays(self):
        table = table_from(*NEST)
        requests = list(table)
        requests.reverse()
        requests.pop()
        self.assertEqual(len(list(table)), 7)
        with self.assertRaises(AttributeError):
            table.locks = ()


class TestJoined(unittest.TestCase):
    first = ("lock a", "lock b", "routine left", "acquire a", "acquire b", "acquire a", "release a", "release b",
             "release a", "end", "entry left")
    second = ("lock c", "lock b", "lock a", "routine right", "acquire c", "acquire b", "acquire a", "acquire b",
              "release b", "release a", "release b", "release c", "maybe right", "end", "entry right")

    def test_locks_requests_and_lengths(self):
        joined = table_from(*self.first) | table_from(*self.second)
        self.assertIs(type(joined), Table)
        self.assertEqual(told(joined), (
            ("a", "b", "c"),
            [(((), "a"), 0), (((), "c"), 0), ((("a",), "b"), 1), ((("a", "b"), "a"), 2), ((("a", "b", "c"), "b"), 3),
             ((("b", "c"), "a"), 2), ((("c",), "b"), 1)],
            7,
            ((("a", "b"), "a"), (("a", "b", "c"), "b")),
        ))
        joined = table_from(*self.second) | table_from(*self.first)
        self.assertEqual(joined.locks, ("c", "b", "a"))
        self.assertEqual(rows_of(joined), [
            (((), "c"), 0), (((), "a"), 0), ((("c",), "b"), 1), ((("c", "b"), "a"), 2), ((("c", "b", "a"), "b"), 3),
            ((("b", "a"), "a"), 2), ((("a",), "b"), 1)])

    def test_the_smaller_length_from_either_side(self):
        short = ("lock a", "routine x", "acquire a", "release a", "end", "entry x")
        long = ("lock a", "hook h", "routine y", "invoke h", "acquire a", "release a", "end", "entry y")
        for one, two in ((short, long), (long, short), (short, short)):
            self.assertEqual(rows_of(table_from(*one) | table_from(*two)), [(((), "a"), 0)])
        self.assertEqual(rows_of(table_from(*long) | table_from(*long)), [(((), "a"), 1)])

    def test_a_request_that_both_write_in_another_order(self):
        one = table_from("lock a", "lock b", "lock c", "hook h", "routine x", "invoke h", "acquire a", "acquire b",
                         "acquire c", "release c", "release b", "release a", "end", "entry x")
        two = table_from("lock b", "lock a", "lock c", "routine y", "acquire a", "acquire b", "acquire c", "release c",
                         "release b", "release a", "end", "entry y")
        self.assertEqual([one[("a", "b"), "c"], two[("b", "a"), "c"]], [3, 2])
        joined = one | two
        self.assertEqual(joined[("a", "b"), "c"], 2)
        self.assertIs((("b", "a"), "c") in joined, False)
        self.assertEqual((two | one)[("b", "a"), "c"], 2)

    def test_the_two_tables_stay_what_they_were(self):
        one, two = table_from(*self.first), table_from(*self.second)
        before = told(one), told(two)
        joined = one | two
        told_then = told(joined)
        joined | two | one
        one | one
        self.assertEqual((told(one), told(two)), before)
        self.assertEqual(told(joined), told_then)

    def test_with_itself_and_with_the_empty_table(self):
        table = table_from(*self.second)
        empty = table_of(Library.read(""))
        for joined in (table | table, table | empty, empty | table):
            self.assertEqual(told(joined), told(table))
        self.assertEqual(told(empty | empty), ((), [], 0, ()))

    def test_more_than_five_locks(self):
        tables = [table_from(*[f"lock {name}" for name in names], "routine r",
                             *[f"acquire {name}" for name in names], *[f"release {name}" for name in names[::-1]],
                             "end", "entry r") for names in ("abcde", "vwxyz")]
        joined = tables[0] | tables[1]
        self.assertEqual([joined.locks, len(joined)], [tuple("abcdevwxyz"), 10])
        self.assertEqual(joined[tuple("vwxy"), "z"], 4)

    def test_random_tables(self):
        for seed in range(100):
            one = table_of(Library.read(random_text(seed)))
            two = table_of(Library.read(dense_text(seed)))
            for first, second in ((one, two), (two, one)):
                joined = first | second
                locks, lengths = joined_of_point_23(first, second)
                self.assertEqual([joined.locks, dict(rows_of(joined))], [locks, lengths])
                self.assertTrue(in_order(locks, list(joined)))

    def test_the_table_of_a_sum_of_libraries(self):
        renamed = str.maketrans("pqrshi", "tuvwjk")
        sums = 0
        for seed, other in itertools.product(range(20), range(20, 40)):
            one = Library.read(dense_text(seed))
            two = Library.read(self.with_other_names(dense_text(other), renamed))
            try:
                added = one + two
            except (Overfull, Repeated):
                continue
            self.assertEqual(told(table_of(added)), told(table_of(one) | table_of(two)))
            sums += 1
        self.assertGreater(sums, 30)

    def with_other_names(self, text, renamed):
        lines = [line.split(" ") for line in text.split("\n")]
        return "\n".join(" ".join([line[0], *(self.other_name(name, renamed) for name in line[1:])])
                         for line in lines)

    def other_name(self, name, renamed):
        return name.translate(renamed) if len(name) == 1 else name if name == "lock" else "other" + name[:3]
