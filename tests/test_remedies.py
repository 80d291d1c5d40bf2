"""Points 48 and 49: smallest deferrals and widest callbacks."""

import itertools
import random
import unittest

from heldcalls.errors import NoName
from heldcalls.library import Library
from heldcalls.remedies import smallest_deferrals, widest_callbacks
from heldcalls.verdicts import analyze
from tests.support import dense_text, full_text, raised, random_text, text_of, tiny_text

SAW = text_of("lock a", "hook saw get", "routine get", "acquire a", "release a", "end", "routine put", "acquire a",
              "invoke saw", "release a", "end", "entry put")
CROSS = text_of("lock a", "lock b", "hook h", "routine left", "acquire a", "acquire b", "release b", "release a", "end",
                "routine right", "acquire b", "acquire a", "release a", "release b", "end",
                "entry left", "entry right")
# Each of the hooks x and y closes a circle with the routine back.
TWO = text_of("lock a", "lock b", "hook x geta", "deferred no", "hook y geta", "hook z geta", "routine geta",
              "acquire a", "release a", "end", "routine one", "acquire b", "invoke x", "release b", "end",
              "routine two", "acquire b", "invoke y", "release b", "end", "routine back", "acquire a", "acquire b",
              "release b", "release a", "end", "entry one", "entry two", "entry back")
# Deferring h makes it unsafe, because inner is begun without g then.
GUARD = text_of("lock g", "lock a", "lock b", "hook h inner", "hook i", "routine inner", "acquire a", "acquire b",
                "release b", "release a", "end", "routine outer", "acquire g", "invoke h", "release g", "end",
                "routine other", "acquire g", "acquire b", "acquire a", "release a", "release b", "release g", "end",
                "entry outer", "entry other")
KINDS = (True, False)


def sets_of(names):
    """All sets of the names, in the order of the tuples of their positions."""
    places = [chosen for many in range(len(names) + 1) for chosen in itertools.combinations(range(len(names)), many)]
    return [tuple(names[at] for at in chosen) for chosen in sorted(places)]


def deferrals_by_words(library, reentrant):
    immediate = [hook for hook in library.hooks if not library.is_deferred(hook)]
    enough = [hooks for hooks in sets_of(immediate) if analyze(library.deferring(*hooks), reentrant=reentrant)]
    least = min(map(len, enough), default=0)
    return tuple(hooks for hooks in enough if len(hooks) == least)


def callbacks_by_words(library, hook, reentrant):
    allowed = [routines for routines in sets_of(library.routines)
               if analyze(library.with_callbacks(hook, routines), reentrant=reentrant)]
    return tuple(routines for routines in allowed if not any(set(routines) < set(other) for other in allowed))


def under_locks_text(seed):
    """Returns a library with two routines that invoke the hook h under a lock, and three others that acquire locks."""
    chance = random.Random(seed)
    lines = ["lock b", "lock a", "lock c", "hook i r", "hook h q"]
    for routine in "pqr":
        inner = chance.sample("abc", chance.choice([1, 1, 2]))
        lines += [f"routine {routine}", *[f"acquire {lock}" for lock in inner],
                  *[f"release {lock}" for lock in reversed(inner)], "end"]
    for routine in "st":
        lock, hook = chance.choice("abc"), chance.choice("hhi")
        lines += [f"routine {routine}", f"acquire {lock}", "invoke h", f"invoke {hook}", f"release {lock}", "end"]
    return text_of(*lines, "entry s", "entry t")


class TestSmallestDeferrals(unittest.TestCase):
    def deferrals(self, text, **kind):
        library = Library.read(text)
        found = smallest_deferrals(library, **kind)
        self.assertEqual(library.written(), text)
        self.assertEqual([type(found), {type(hooks) for hooks in found} - {tuple}], [tuple, set()])
        return found

    def test_a_safe_library(self):
        for text in ("", "hook h", "deferred h", GUARD):
            for reentrant in KINDS:
                self.assertEqual(self.deferrals(text, reentrant=reentrant), ((),))

    def test_no_set_has_the_property(self):
        for reentrant in KINDS:
            self.assertEqual(self.deferrals(CROSS, reentrant=reentrant), ())
            self.assertEqual(self.deferrals(CROSS.replace("hook h\n", ""), reentrant=reentrant), ())

    def test_both_kinds_of_machines(self):
        self.assertEqual(self.deferrals(SAW), ((),))
        self.assertEqual(self.deferrals(SAW, reentrant=True), ((),))
        self.assertEqual(self.deferrals(SAW, reentrant=False), (("saw",),))
        with self.assertRaises(TypeError):
            smallest_deferrals(Library.read(SAW), False)

    def test_several_hooks_together(self):
        self.assertEqual(self.deferrals(TWO), (("x", "y"),))
        self.assertEqual(self.deferrals(TWO.replace("invoke y", "invoke no")), (("x",),))
        # In the order of the library, whatever their names are.
        swapped = TWO.replace("hook x", "hook q").replace("hook y", "hook x").replace("hook q", "hook y")
        self.assertEqual(self.deferrals(swapped), (("y", "x"),))

    def test_hooks_that_are_deferred_already_are_not_named(self):
        self.assertEqual(self.deferrals(TWO.replace("hook x", "deferred x")), (("y",),))
        self.assertEqual(self.deferrals(TWO.replace("hook x", "deferred x").replace("hook y", "deferred y")), ((),))

    def test_all_sets_of_equally_few_hooks_in_order(self):
        # It is enough that one of the three hooks does not call back in time.
        text = text_of("lock a", "lock b", "lock c", "hook z rc", "hook i", "hook x rb", "hook y ra", "routine ra",
                       "acquire a", "invoke x", "release a", "end", "routine rb", "acquire b", "invoke z",
                       "release b", "end", "routine rc", "acquire c", "invoke y", "release c", "end",
                       "entry ra", "entry rb", "entry rc")
        self.assertEqual(self.deferrals(text), (("z",), ("x",), ("y",)))
        self.assertEqual(self.deferrals(text), deferrals_by_words(Library.read(text), True))

    def test_deferring_more_hooks_may_make_it_unsafe(self):
        self.assertTrue(analyze(Library.read(GUARD)))
        self.assertFalse(analyze(Library.read(GUARD).deferring("h")))
        self.assertEqual(self.deferrals(GUARD.replace("hook h", "deferred h")), ())
        # The hook j must be deferred, and h must not be.
        text = GUARD.replace("hook i", "hook j cross").replace("routine outer", text_of(
            "routine cross", "acquire g", "release g", "end", "routine outer", "acquire a", "invoke j", "release a"))
        for reentrant in KINDS:
            self.assertEqual(self.deferrals(text, reentrant=reentrant), (("j",),))
        self.assertFalse(analyze(Library.read(text).deferring("h", "j")))

    def test_against_trying_every_set(self):
        seen = {}
        for seed in range(160):
            library = Library.read([tiny_text, dense_text, random_text][seed % 3](seed))
            for reentrant in KINDS:
                found = smallest_deferrals(library, reentrant=reentrant)
                self.assertEqual(found, deferrals_by_words(library, reentrant))
                kind = len(found[0]) if found else None
                seen[kind] = seen.get(kind, 0) + 1
        self.assertGreater(min(seen[None], seen[0], seen[1]), 10)


class TestWidestCallbacks(unittest.TestCase):
    text = text_of("lock a", "lock b", "hook h", "hook i put", "routine geta", "acquire a", "release a", "end",
                   "routine getb", "acquire b", "release b", "end", "routine put", "acquire a", "invoke h",
                   "release a", "end", "routine swap", "acquire b", "call geta", "release b", "end", "entry put",
                   "entry swap")

    def widest(self, text, hook, **kind):
        library = Library.read(text)
        found = widest_callbacks(library, hook, **kind)
        self.assertEqual(library.written(), text)
        self.assertEqual([type(found), {type(routines) for routines in found} - {tuple}], [tuple, set()])
        return found

    def test_both_kinds_of_machines(self):
        self.assertEqual(self.widest(self.text, "h"), (("geta", "put"),))
        self.assertEqual(self.widest(self.text, "h", reentrant=True), (("geta", "put"),))
        self.assertEqual(self.widest(self.text, "h", reentrant=False), ((),))
        with self.assertRaises(TypeError):
            widest_callbacks(Library.read(self.text), "h", False)

    def test_the_callbacks_that_the_hook_has_do_not_count(self):
        for callbacks in ("", " getb", " swap put geta getb"):
            self.assertEqual(self.widest(self.text.replace("hook h", "hook h" + callbacks), "h"), (("geta", "put"),))

    def test_a_deferred_hook(self):
        everything = ("geta", "getb", "put", "swap")
        self.assertEqual(self.widest(self.text.replace("hook h", "deferred h"), "h"), (everything,))
        self.assertEqual(self.widest(self.text, "i"), (everything,))

    def test_no_routines(self):
        for reentrant in KINDS:
            self.assertEqual(self.widest("hook h", "h", reentrant=reentrant), ((),))

    def test_not_even_the_empty_set(self):
        for reentrant in KINDS:
            self.assertEqual(self.widest(CROSS, "h", reentrant=reentrant), ())

    def test_several_widest_sets_in_order(self):
        # Either geta may be called back under b, or getb under a.
        text = text_of("lock b", "lock a", "hook h", "routine getb", "acquire b", "release b", "end", "routine geta",
                       "acquire a", "release a", "end", "routine free", "end", "routine ha", "acquire a", "invoke h",
                       "release a", "end", "routine hb", "acquire b", "invoke h", "release b", "end", "entry ha",
                       "entry hb")
        found = self.widest(text, "h")
        self.assertEqual(found, callbacks_by_words(Library.read(text), "h", True))
        self.assertEqual(found, (("getb", "free", "hb"), ("geta", "free", "ha")))

    def test_no_such_hook(self):
        for text, names in (("", ("h", "")), (self.text, ("j", "geta", "a", "")), ("hook h", ("i",))):
            for name in names:
                for reentrant in KINDS:
                    self.assertEqual(raised(NoName, widest_callbacks, Library.read(text), name, reentrant=reentrant),
                                     {"name": name})

    def test_against_trying_every_set(self):
        several = none = 0
        for seed in range(90):
            library = Library.read([tiny_text, dense_text, under_locks_text][seed % 3](seed))
            for hook in library.hooks[:2]:
                for reentrant in KINDS:
                    found = widest_callbacks(library, hook, reentrant=reentrant)
                    self.assertEqual(found, callbacks_by_words(library, hook, reentrant))
                    several += len(found) > 1
                    none += found == ()
        self.assertGreater(min(several, none), 5)

    def test_allowed_exactly_if_a_part_of_a_widest_set(self):
        for seed in range(12):
            library = Library.read([tiny_text, dense_text][seed % 2](seed))
            for hook in library.hooks:
                for reentrant in KINDS:
                    found = widest_callbacks(library, hook, reentrant=reentrant)
                    for routines in sets_of(library.routines):
                        allowed = bool(analyze(library.with_callbacks(hook, routines), reentrant=reentrant))
                        self.assertEqual(allowed, any(set(routines) <= set(other) for other in found))


class TestAtTheBounds(unittest.TestCase):
    def test_libraries_at_all_their_bounds(self):
        for seed in range(2):
            library = Library.read(full_text(seed))
            for reentrant in KINDS:
                self.assertEqual(smallest_deferrals(library, reentrant=reentrant),
                                 deferrals_by_words(library, reentrant))
                self.assertEqual(widest_callbacks(library, "h", reentrant=reentrant),
                                 callbacks_by_words(library, "h", reentrant))

    def test_asking_again_changes_nothing(self):
        library = Library.read(TWO)
        first = [smallest_deferrals(library), widest_callbacks(library, "x")]
        smallest_deferrals(library, reentrant=False)
        widest_callbacks(library, "y", reentrant=False)
        smallest_deferrals(Library.read(SAW), reentrant=False)
        self.assertEqual([smallest_deferrals(library), widest_callbacks(library, "x")], first)
