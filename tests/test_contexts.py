"""Points 19 to 21: contexts and their lengths, and the held sets with which a hook is invoked."""

import unittest

from heldcalls.contexts import contexts, held_when_invoked
from heldcalls.errors import NoName
from heldcalls.layout import call_length, call_length_with, lengths_before, locks_at, outer_blocks
from heldcalls.library import Library
from tests.moves import Search, held_set
from tests.support import dense_text, full_text, raised, random_text, text_of

LOCKS = ("lock a", "lock b", "lock c")


def found_in(*lines):
    return contexts(Library.read(text_of(*lines)))


def lengths_of(*lines):
    """Returns the lengths of the contexts, a dict by (routine, held set)."""
    return {(routine, held): length for routine, held, length in found_in(*lines)}


def callees(library, word, name):
    return library.callbacks(name) if word == "invoke" else (name,)


def contexts_of_point_20(library):
    """The set of point 20, made by its words."""
    known = {(entry, ()) for entry in library.entries}
    while True:
        later = set(known)
        for routine, held in known:
            for (word, name), own in zip(library.statements(routine), locks_at(library, routine)):
                there = held_set(library, held + own)
                if word in ("call", "maybe"):
                    later.add((name, there))
                elif word == "invoke":
                    for callback in library.callbacks(name):
                        later.add((callback, () if library.is_deferred(name) else there))
        if later == known:
            return known
        known = later


def number_for(library, statement, hook):
    """The least number of point 12 of one statement, from the call lengths with the hook; None if there is none."""
    word, name = statement
    if statement == ("invoke", hook):
        return 0
    if word not in ("call", "maybe", "invoke") or word == "invoke" and library.is_deferred(name):
        return None
    numbers = [call_length_with(library, routine, hook) - (call_length(library, routine) if word == "call" else 0)
               for routine in callees(library, word, name)
               if call_length_with(library, routine, hook) is not None]
    return min(numbers, default=None)


def rules_of_point_21(library):
    """The three rules, as tuples (routine, needs nothing held, places that add locks, callee, added length)."""
    rules = []
    for routine in library.routines:
        before = lengths_before(library, routine)
        own = locks_at(library, routine)
        statements = library.statements(routine)
        for place, (word, name) in enumerate(statements):
            if word in ("call", "maybe", "invoke"):
                deferred = word == "invoke" and library.is_deferred(name)
                for callee in callees(library, word, name):
                    if not deferred or own[place] == ():
                        rules.append((routine, deferred, own[place], callee, before[place] + 1))
        for first, last in outer_blocks(library, routine):
            for hook in filter(library.is_deferred, library.hooks):
                numbers = [number_for(library, statement, hook) for statement in statements[first + 1:last]]
                least = min((number for number in numbers if number is not None), default=None)
                if least is not None:
                    for callee in library.callbacks(hook):
                        rules.append((routine, True, (), callee, before[last] + 1 + least))
    return rules


def lengths_of_point_21(library):
    """The smallest lengths that the rules allow, by going round until nothing changes."""
    rules = rules_of_point_21(library)
    lengths = {(entry, ()): 0 for entry in library.entries}
    changed = True
    while changed:
        changed = False
        for (routine, held), length in list(lengths.items()):
            for begun, free, own, callee, added in rules:
                if begun == routine and not (free and held):
                    context = (callee, held_set(library, held + own))
                    if lengths.get(context, length + added + 1) > length + added:
                        lengths[context] = length + added
                        changed = True
    return lengths


class TestContexts(unittest.TestCase):
    def test_nothing_begins_without_entries(self):
        self.assertEqual(found_in("lock a", "hook h r", "routine r", "invoke h", "end"), ())
        self.assertEqual(contexts(Library.read("")), ())

    def test_entries_alone(self):
        self.assertEqual(found_in("routine q", "end", "routine r", "end", "entry r", "entry q"),
                         (("q", (), 0), ("r", (), 0)))

    def test_tuples_all_the_way(self):
        found = found_in(*LOCKS, "routine q", "end", "routine r", "acquire b", "call q", "release b", "end", "entry r")
        self.assertEqual(found, (("q", ("b",), 2), ("r", (), 0)))
        self.assertEqual([type(found), type(found[0]), type(found[0][1]), type(found[0][2])], [tuple, tuple, tuple, int])

    def test_call_and_maybe(self):
        lines = (*LOCKS, "routine one", "end", "routine two", "call one", "end", "routine three", "end", "routine run",
                 "call two", "acquire c", "acquire a", "maybe three", "maybe two", "release a", "release c", "call one",
                 "end", "entry run")
        self.assertEqual(lengths_of(*lines), {
            ("run", ()): 0, ("two", ()): 1, ("one", ()): 2, ("three", ("a", "c")): 7, ("two", ("a", "c")): 8,
            ("one", ("a", "c")): 9,
        })

    def test_immediate_hooks(self):
        lines = (*LOCKS, "hook h one two", "routine one", "end", "routine two", "acquire a", "invoke h", "release a",
                 "end", "routine run", "acquire b", "invoke h", "release b", "invoke h", "end", "entry run")
        self.assertEqual(lengths_of(*lines), {
            ("run", ()): 0, ("one", ("b",)): 2, ("two", ("b",)): 2, ("one", ("a", "b")): 4, ("two", ("a", "b")): 4,
            ("one", ()): 4, ("two", ()): 4, ("one", ("a",)): 6, ("two", ("a",)): 6,
        })

    def test_a_lock_that_is_acquired_again_counts_once(self):
        lines = (*LOCKS, "routine one", "end", "routine run", "acquire c", "acquire b", "acquire c", "call one",
                 "release c", "release b", "maybe run", "release c", "end", "entry run")
        self.assertEqual(lengths_of(*lines), {("run", ()): 0, ("one", ("b", "c")): 4, ("run", ("c",)): 8,
                                              ("one", ("b", "c")): 4})

    def test_a_deferred_hook_without_a_lock(self):
        lines = (*LOCKS, "deferred h one", "routine one", "acquire a", "release a", "end", "routine run", "call one",
                 "invoke h", "end", "entry run")
        self.assertEqual(lengths_of(*lines, "entry one"), {("run", ()): 0, ("one", ()): 0})
        lines = (*LOCKS, "deferred h two", "routine one", "end", "routine two", "end", "routine run", "call one",
                 "invoke h", "end", "entry run")
        self.assertEqual(lengths_of(*lines), {("run", ()): 0, ("one", ()): 1, ("two", ()): 3})

    def test_a_deferred_hook_under_a_lock(self):
        lines = (*LOCKS, "deferred h one", "routine one", "end", "routine run", "acquire a", "invoke h", "acquire b",
                 "release b", "release a", "end", "entry run")
        self.assertEqual(lengths_of(*lines), {("run", ()): 0, ("one", ()): 5})

    def test_each_hook_has_its_own_callbacks(self):
        lines = (*LOCKS, "deferred h one", "deferred g two", "hook i", "routine one", "end", "routine two", "end",
                 "routine run", "acquire a", "invoke h", "release a", "acquire a", "invoke g", "invoke i", "release a",
                 "end", "entry run")
        self.assertEqual(lengths_of(*lines), {("run", ()): 0, ("one", ()): 3, ("two", ()): 7})

    def test_only_the_least_number_between_the_places_counts(self):
        lines = ("lock a", "deferred h back", "hook now deep", "routine back", "end",
                 "routine deep", "invoke h", "end")
        ends = ("end", "entry run")
        for inner, extra in (
            (("invoke h",), 0), (("call deep",), 0), (("maybe deep",), 2), (("invoke now",), 2),
            (("maybe deep", "call deep", "invoke now"), 0), (("invoke now", "maybe deep"), 2),
        ):
            found = lengths_of(*lines, "routine run", "acquire a", *inner, "release a", *ends)
            length = 2 + len(inner) + 2 * (inner.count("call deep"))
            self.assertEqual(found["back", ()], length + extra, inner)

    def test_a_number_is_a_least_one_of_deeper_calls(self):
        lines = ("lock a", "deferred h back", "routine back", "end", "routine deep", "maybe back", "maybe back",
                 "invoke h", "end", "routine mid", "maybe deep", "end", "routine run", "acquire a", "maybe mid",
                 "release a", "end", "entry run")
        # Three statements of run, 2 of mid and 4 of deep are executed, each return included.
        self.assertEqual(lengths_of(*lines)["back", ()], 9)

    def test_statements_outside_of_the_block_do_not_count(self):
        lines = ("lock a", "deferred h back", "routine back", "end", "routine run", "acquire a", "release a",
                 "invoke h", "acquire a", "release a", "end", "entry run")
        self.assertEqual(lengths_of(*lines), {("run", ()): 0, ("back", ()): 3})

    def test_the_shortest_block_counts(self):
        ways = ("lock a", "deferred h back", "routine back", "end", "routine deep", "maybe back", "maybe back",
                "invoke h", "end")
        lines = (*ways, "routine run", "acquire a", "maybe deep", "release a", "acquire a", "invoke h", "release a",
                 "end", "entry run")
        self.assertEqual(lengths_of(*lines)["back", ()], 6)
        lines = (*ways, "routine run", "acquire a", "maybe deep", "release a", "acquire a", "acquire a", "acquire a",
                 "invoke h", "release a", "release a", "release a", "end", "entry run")
        self.assertEqual(lengths_of(*lines)["back", ()], 7)

    def test_no_body_begins_while_a_lock_is_held_from_before(self):
        lines = ("lock a", "lock b", "deferred h back", "routine back", "end", "routine low", "acquire b", "invoke h",
                 "release b", "end", "routine run", "acquire a", "call low", "maybe low", "release a", "end",
                 "entry run")
        self.assertEqual(lengths_of(*lines), {("run", ()): 0, ("low", ("a",)): 2, ("back", ()): 8})

    def test_both_a_free_invoke_and_one_under_a_lock(self):
        lines = ("lock a", "deferred h back", "routine back", "end", "routine run")
        free = ("invoke h",)
        locked = ("acquire a", "invoke h", "release a")
        self.assertEqual(lengths_of(*lines, *free, *locked, "end", "entry run")["back", ()], 1)
        self.assertEqual(lengths_of(*lines, *locked, *free, "end", "entry run")["back", ()], 3)

    def test_a_pending_hook_keeps_the_bodies_of_others_waiting_for_nothing(self):
        lines = ("lock a", "deferred h one two", "deferred g two one", "routine one", "end", "routine two", "end",
                 "routine run", "acquire a", "invoke g", "invoke h", "invoke g", "release a", "end", "entry run")
        self.assertEqual(lengths_of(*lines), {("run", ()): 0, ("one", ()): 5, ("two", ()): 5})

    def test_order(self):
        lines = ("lock b", "lock a", "lock c", "hook h low", "routine low", "end", "routine up",
                 "acquire c", "invoke h", "release c", "acquire b", "invoke h", "acquire a", "invoke h", "release a",
                 "release b", "end", "routine more", "acquire a", "invoke h", "acquire c", "invoke h", "release c",
                 "release a", "invoke h", "end", "entry more", "entry up")
        self.assertEqual([(routine, held) for routine, held, _ in found_in(*lines)], [
            ("low", ()), ("low", ("b",)), ("low", ("b", "a")), ("low", ("a",)), ("low", ("a", "c")), ("low", ("c",)),
            ("up", ()), ("more", ()),
        ])

    def test_routines_that_call_themselves(self):
        lines = (*LOCKS, "hook h r", "routine r", "acquire a", "maybe r", "invoke h", "release a", "acquire b",
                 "maybe r", "release b", "end", "entry r")
        self.assertEqual(found_in(*lines), (("r", (), 0), ("r", ("a",), 2), ("r", ("a", "b"), 8), ("r", ("b",), 6)))

    def test_of_libraries_made_from_it(self):
        text = text_of("lock a", "lock b", "hook h get", "hook g", "routine get", "end", "routine put", "acquire a",
                       "acquire b", "invoke h", "release b", "release a", "invoke g", "end", "entry put")
        library = Library.read(text)
        for _ in range(2):
            self.assertEqual(contexts(library), (("get", ("a", "b"), 3), ("put", (), 0)))
            self.assertEqual(contexts(library.deferring("h")), (("get", (), 5), ("put", (), 0)))
            self.assertEqual(contexts(library.keeping(["b"])), (("get", ("b",), 2), ("put", (), 0)))
            self.assertEqual(contexts(library.keeping([]).deferring("h")), (("get", (), 1), ("put", (), 0)))
            self.assertEqual(contexts(library.with_callbacks("h", ["put"])), (("put", (), 0), ("put", ("a", "b"), 3)))
            self.assertEqual(contexts(library.with_callbacks("g", ["get"])),
                             (("get", (), 6), ("get", ("a", "b"), 3), ("put", (), 0)))
            other = Library.read("routine x\nend\nentry x")
            self.assertEqual(contexts(library + other), contexts(library) + (("x", (), 0),))
        self.assertEqual(library.written(), text)


class TestHeldWhenInvoked(unittest.TestCase):
    def test_in_order_each_once(self):
        library = Library.read(text_of(
            "lock b", "lock a", "hook h run", "deferred g", "hook never", "hook unused", "routine alone",
            "invoke never", "end", "routine run", "invoke g", "acquire a", "invoke h", "release a", "acquire b",
            "acquire a", "invoke g", "release a", "invoke h", "release b", "end", "entry run"))
        # Called back by h, run begins with a or b or both held.
        self.assertEqual(held_when_invoked(library, "h"), (("b",), ("b", "a"), ("a",)))
        self.assertEqual(held_when_invoked(library, "g"), ((), ("b",), ("b", "a"), ("a",)))
        self.assertEqual([held_when_invoked(library, "never"), held_when_invoked(library, "unused")], [(), ()])

    def test_tuples(self):
        library = Library.read("lock a\nhook h\nroutine r\nacquire a\ninvoke h\nrelease a\nend\nentry r")
        found = held_when_invoked(library, "h")
        self.assertEqual([type(found), found], [tuple, (("a",),)])
        self.assertEqual(held_when_invoked(library.deferring("h"), "h"), (("a",),))

    def test_no_such_hook(self):
        library = Library.read("lock a\nhook h\nroutine r\ninvoke h\nend\nentry r")
        for name in ("a", "r", "none", ""):
            self.assertEqual(raised(NoName, held_when_invoked, library, name), {"name": name})
        self.assertEqual(raised(NoName, held_when_invoked, Library.read(""), "h"), {"name": "h"})


class TestAgainstTheRules(unittest.TestCase):
    def test_random_libraries(self):
        seen = []
        for seed in range(300):
            library = Library.read(dense_text(seed) if seed % 2 else random_text(seed))
            found = contexts(library)
            lengths = {(routine, held): length for routine, held, length in found}
            self.assertEqual(lengths, lengths_of_point_21(library), library.written())
            self.assertEqual(set(lengths), contexts_of_point_20(library))
            self.assertEqual(found, tuple(sorted(found, key=lambda row: (
                library.routines.index(row[0]), [library.locks.index(lock) for lock in row[1]]))))
            for hook in library.hooks:
                held_sets = {held_set(library, held + own) for routine, held in lengths
                             for statement, own in zip(library.statements(routine), locks_at(library, routine))
                             if statement == ("invoke", hook)}
                self.assertEqual(held_when_invoked(library, hook), tuple(sorted(
                    held_sets, key=lambda held: [library.locks.index(lock) for lock in held])))
            seen.append(len(found))
        self.assertGreater(sum(many > 3 for many in seen), 60)

    def test_against_a_search_over_the_moves(self):
        deferred = 0
        for seed in range(1000, 1120):
            library = Library.read(dense_text(seed))
            lengths = {(routine, held): length for routine, held, length in contexts(library)}
            search = Search(library, 30, states=4000)
            self.assertEqual({context: length for context, length in lengths.items() if length <= search.most},
                             {context: length for context, length in search.contexts.items() if length <= search.most},
                             library.written())
            for hook in library.hooks:
                self.assertLessEqual(search.invoked[hook], set(held_when_invoked(library, hook)))
                if search.complete and max(lengths.values()) + 20 < search.most:
                    self.assertEqual(search.invoked[hook], set(held_when_invoked(library, hook)))
            deferred += sum(held == () and 2 < length <= search.most for (_, held), length in lengths.items())
        self.assertGreater(deferred, 12)

    def test_libraries_at_their_bounds(self):
        for seed in range(6):
            library = Library.read(full_text(seed))
            lengths = {(routine, held): length for routine, held, length in contexts(library)}
            self.assertEqual(lengths, lengths_of_point_21(library))
            self.assertEqual(set(lengths), contexts_of_point_20(library))
