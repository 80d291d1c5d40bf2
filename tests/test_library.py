"""Points 2, 3, 7 and 8: what a library tells, writing, and the libraries made from it."""

import itertools
import unittest

from heldcalls.errors import NoName, Overfull, Repeated
from heldcalls.library import Library
from tests.support import random_text, text_of

TEXT = text_of(
    "lock b", "lock a", "lock c", "hook one in", "deferred two", "hook three out in",
    "routine in", "acquire a", "acquire c", "release c", "release a", "maybe out", "end",
    "routine out", "acquire b", "call in", "invoke three", "release b", "end", "entry out",
)


def told(library):
    """Returns all that the library tells."""
    return (
        library.locks, library.hooks, library.routines, library.entries,
        [library.statements(routine) for routine in library.routines],
        [library.callbacks(hook) for hook in library.hooks],
        [library.is_deferred(hook) for hook in library.hooks],
        library.written(),
    )


def named(word, count, end=""):
    """Returns the text that declares this many names with the word."""
    return "\n".join(f"{word} {letter}{end}" for letter in "abcdef"[:count])


class LibraryTest(unittest.TestCase):
    def check_raises(self, kind, name, function, *given):
        with self.assertRaises(kind) as caught:
            function(*given)
        self.assertIs(type(caught.exception), kind)
        self.assertEqual(caught.exception.name, name)


class TestTold(LibraryTest):
    def test_tuples_all_the_way(self):
        library = Library.read(TEXT)
        for found in told(library)[:4]:
            self.assertIs(type(found), tuple)
        self.assertEqual(library.statements("out"),
                         (("acquire", "b"), ("call", "in"), ("invoke", "three"), ("release", "b")))
        self.assertIs(type(library.statements("out")), tuple)
        self.assertEqual({type(statement) for statement in library.statements("in")}, {tuple})
        self.assertEqual([library.callbacks("two"), library.callbacks("three")], [(), ("out", "in")])
        self.assertIs(library.is_deferred("two"), True)
        self.assertIs(library.is_deferred("one"), False)

    def test_a_routine_without_statements(self):
        self.assertEqual(Library.read("routine r\nend").statements("r"), ())

    def test_unknown_names(self):
        library = Library.read(TEXT)
        for name in ("none", "a", "one", "", "In"):
            self.check_raises(NoName, name, library.statements, name)
        for name in ("none", "a", "in", ""):
            self.check_raises(NoName, name, library.callbacks, name)
            self.check_raises(NoName, name, library.is_deferred, name)

    def test_equal_texts_give_equal_libraries(self):
        self.assertEqual(told(Library.read(TEXT)), told(Library.read(TEXT)))

    def test_properties_cannot_be_assigned(self):
        library = Library.read(TEXT)
        for name in ("locks", "hooks", "routines", "entries"):
            with self.assertRaises(AttributeError):
                setattr(library, name, ())


class TestWritten(LibraryTest):
    def test_writing_gives_the_text_that_was_read(self):
        for text in ("", TEXT, "lock a", "hook h", "deferred h", "routine r\nend", "routine r\nend\nentry r"):
            self.assertEqual(Library.read(text).written(), text)

    def test_random_texts(self):
        for seed in range(500):
            text = random_text(seed)
            self.assertEqual(Library.read(text).written(), text)

    def test_libraries_that_were_made_can_be_read(self):
        for seed in range(300):
            library = Library.read(random_text(seed))
            made = [library.deferring(*library.hooks), library.keeping(library.locks[::2])]
            made += [library.with_callbacks(hook, library.routines[::-1]) for hook in library.hooks]
            made += [library + Library.read(""), Library.read("") + library]
            for other in made:
                self.assertEqual(told(Library.read(other.written())), told(other))


class TestDeferring(LibraryTest):
    def test_named_hooks_become_deferred(self):
        library = Library.read(TEXT)
        for count in range(4):
            for hooks in itertools.permutations(library.hooks, count):
                made = library.deferring(*hooks)
                expected = TEXT
                for hook in hooks:
                    expected = expected.replace(f"\nhook {hook}", f"\ndeferred {hook}")
                self.assertEqual(made.written(), expected)
                self.assertEqual([hook for hook in made.hooks if made.is_deferred(hook)],
                                 [hook for hook in library.hooks if hook == "two" or hook in hooks])
                self.assertEqual({type(made.is_deferred(hook)) for hook in made.hooks}, {bool})

    def test_wrong_names(self):
        library = Library.read(TEXT)
        self.check_raises(NoName, "none", library.deferring, "none")
        self.check_raises(NoName, "in", library.deferring, "in")
        self.check_raises(NoName, "a", library.deferring, "one", "a")
        self.check_raises(Repeated, "one", library.deferring, "one", "one")
        self.check_raises(Repeated, "two", library.deferring, "two", "one", "two")
        self.check_raises(NoName, "none", library.deferring, "one", "none", "one")
        self.check_raises(Repeated, "one", library.deferring, "one", "one", "none")
        self.check_raises(NoName, "none", library.deferring, "none", "none")
        self.check_raises(NoName, "one", Library.read("").deferring, "one")


class TestWithCallbacks(LibraryTest):
    def test_the_callbacks_are_those_given(self):
        library = Library.read(TEXT)
        for callbacks in ((), ("in",), ("out",), ("in", "out"), ("out", "in")):
            for given in (callbacks, list(callbacks)):
                made = library.with_callbacks("three", given)
                self.assertEqual(made.callbacks("three"), callbacks)
                self.assertIs(type(made.callbacks("three")), tuple)
                self.assertEqual(made.written(),
                                 TEXT.replace("hook three out in", " ".join(["hook three", *callbacks])))

    def test_a_deferred_hook_stays_deferred(self):
        made = Library.read(TEXT).with_callbacks("two", ["out"])
        self.assertEqual(made.written(), TEXT.replace("deferred two", "deferred two out"))
        self.assertEqual(made.hooks, ("one", "two", "three"))

    def test_wrong_names(self):
        library = Library.read(TEXT)
        self.check_raises(NoName, "none", library.with_callbacks, "none", [])
        self.check_raises(NoName, "in", library.with_callbacks, "in", ["none"])
        self.check_raises(NoName, "none", library.with_callbacks, "one", ["none"])
        self.check_raises(NoName, "two", library.with_callbacks, "one", ["in", "two"])
        self.check_raises(NoName, "a", library.with_callbacks, "one", ("in", "a", "in"))
        self.check_raises(Repeated, "in", library.with_callbacks, "one", ["in", "in", "none"])
        self.check_raises(Repeated, "in", library.with_callbacks, "one", ("in", "out", "in"))
        self.check_raises(NoName, "none", library.with_callbacks, "one", ["none", "none"])


class TestKeeping(LibraryTest):
    def test_kept_locks_in_any_order(self):
        library = Library.read(TEXT)
        for count in range(4):
            for locks in itertools.permutations(library.locks, count):
                expected = "\n".join(
                    line for line in TEXT.split("\n")
                    if line.split()[0] not in ("lock", "acquire", "release") or line.split()[1] in locks
                )
                for given in (locks, list(locks)):
                    self.assertEqual(library.keeping(given).written(), expected)
                self.assertEqual(library.keeping(locks).locks, tuple(k for k in ("b", "a", "c") if k in locks))

    def test_locks_that_are_acquired_again(self):
        text = text_of("lock a", "lock b", "routine r", "acquire a", "acquire b", "acquire a", "release a",
                       "release b", "release a", "end")
        made = Library.read(text).keeping(["a"])
        self.assertEqual(made.statements("r"),
                         (("acquire", "a"), ("acquire", "a"), ("release", "a"), ("release", "a")))

    def test_without_any_locks(self):
        made = Library.read(TEXT).keeping([])
        self.assertEqual(made.locks, ())
        self.assertEqual(made.statements("in"), (("maybe", "out"),))
        self.assertEqual(Library.read("").keeping(()).written(), "")

    def test_wrong_names(self):
        library = Library.read(TEXT)
        self.check_raises(NoName, "none", library.keeping, ["none"])
        self.check_raises(NoName, "in", library.keeping, ("a", "in"))
        self.check_raises(NoName, "one", library.keeping, ["a", "one", "a"])
        self.check_raises(Repeated, "a", library.keeping, ["a", "b", "a", "none"])
        self.check_raises(Repeated, "c", library.keeping, ("c", "c"))
        self.check_raises(NoName, "none", library.keeping, ["none", "none"])


class TestSum(LibraryTest):
    def sum_of(self, first, second):
        return Library.read(first) + Library.read(second)

    def test_all_parts(self):
        first = text_of("lock a", "lock b", "deferred h r", "routine r", "acquire b", "release b", "end", "entry r")
        second = text_of("lock c", "lock b", "lock d", "lock a", "hook g s t", "routine s", "acquire c", "release c",
                         "end", "routine t", "call s", "end", "entry t", "entry s")
        self.assertEqual(self.sum_of(first, second).written(), text_of(
            "lock a", "lock b", "lock c", "lock d", "deferred h r", "hook g s t",
            "routine r", "acquire b", "release b", "end", "routine s", "acquire c", "release c", "end",
            "routine t", "call s", "end", "entry r", "entry t", "entry s"))
        self.assertEqual(self.sum_of(second, first).written(), text_of(
            "lock c", "lock b", "lock d", "lock a", "hook g s t", "deferred h r",
            "routine s", "acquire c", "release c", "end", "routine t", "call s", "end",
            "routine r", "acquire b", "release b", "end", "entry t", "entry s", "entry r"))

    def test_the_empty_library(self):
        self.assertEqual(self.sum_of("", "").written(), "")
        self.assertEqual(self.sum_of(TEXT, "").written(), TEXT)
        self.assertEqual(self.sum_of("", TEXT).written(), TEXT)

    def test_a_library_of_locks_and_itself(self):
        self.assertEqual(self.sum_of("lock a\nlock b", "lock b\nlock a").written(), "lock a\nlock b")

    def test_names_that_are_shared(self):
        forms = {"lock": "lock {}", "hook": "hook {}", "deferred": "deferred {}", "routine": "routine {}\nend"}
        for first, second in itertools.product(forms, forms):
            texts = forms[first].format("x"), forms[second].format("x")
            with self.subTest(texts=texts):
                if first == second == "lock":
                    self.assertEqual(self.sum_of(*texts).written(), "lock x")
                else:
                    self.check_raises(Repeated, "x", self.sum_of, *texts)

    def test_the_first_shared_name(self):
        first = "lock la\nlock lb\nhook ha\nhook hb\nroutine ra\nend\nroutine rb\nend"
        for second, name in (
            ("lock lb\nlock rb\nlock ha\nhook la\nroutine ra\nend", "rb"),
            ("lock la\nlock x\nhook y\nhook lb\nhook ra\nroutine rb\nend", "lb"),
            ("lock la\nhook y\nhook ra\nhook ha\nroutine rb\nend", "ra"),
            ("lock la\nhook y\nroutine z\nend\nroutine hb\nend\nroutine ra\nend", "hb"),
            ("routine lb\nend\nroutine ra\nend", "lb"),
        ):
            with self.subTest(second=second):
                self.check_raises(Repeated, name, self.sum_of, first, second)

    def test_a_library_and_itself(self):
        library = Library.read(TEXT)
        self.check_raises(Repeated, "one", library.__add__, library)

    def test_bounds(self):
        for word, end, bound in (("lock", "", 5), ("hook", "", 4), ("deferred", "", 4), ("routine", "\nend", 5)):
            most = named(word, bound, end)
            with self.subTest(word=word):
                self.assertEqual(self.sum_of(most, "").written(), most)
                self.assertEqual(self.sum_of(named(word, bound - 1, end), f"{word} x{end}").written(),
                                 f"{named(word, bound - 1, end)}\n{word} x{end}")
                for first, second in ((most, f"{word} x{end}"), (f"{word} x{end}", most)):
                    with self.assertRaises(Overfull) as caught:
                        self.sum_of(first, second)
                    self.assertIs(type(caught.exception), Overfull)

    def test_hooks_of_both_kinds_count_together(self):
        self.assertEqual(len(self.sum_of("hook a\nhook b", "deferred c\ndeferred d").hooks), 4)
        with self.assertRaises(Overfull):
            self.sum_of("hook a\nhook b\ndeferred e", "deferred c\ndeferred d")

    def test_shared_locks_count_once(self):
        most = named("lock", 5)
        self.assertEqual(self.sum_of(most, most).written(), most)
        self.assertEqual(self.sum_of(most, "lock c\nlock a").written(), most)

    def test_repeated_comes_before_overfull(self):
        for first, second in ((named("lock", 5), "lock x\nhook a"), (named("hook", 4), "hook x\nhook a"),
                              (named("routine", 5, "\nend"), "lock x\nroutine a\nend")):
            self.check_raises(Repeated, "a", self.sum_of, first, second)


class TestNothingChanges(LibraryTest):
    def test_the_library_stays_what_it_was(self):
        library, other = Library.read(TEXT), Library.read("lock a\nlock x\nhook h r\nroutine r\nend\nentry r")
        before = told(library), told(other)
        made = [library.deferring("three", "one"), library.with_callbacks("one", []), library.keeping(["a"]),
                library + other, library.keeping(library.locks), library.deferring()]
        self.assertEqual((told(library), told(other)), before)
        kept = [told(one) for one in made]
        made[3].deferring("h").with_callbacks("h", ["in"]).keeping([])
        self.assertEqual([told(one) for one in made], kept)

    def test_after_an_error_the_library_stays_what_it_was(self):
        library = Library.read(TEXT)
        for function, *given in ((library.deferring, "one", "none"), (library.with_callbacks, "one", ["in", "none"]),
                                 (library.keeping, ["a", "none"]), (library.__add__, library)):
            with self.assertRaises((NoName, Repeated)):
                function(*given)
            self.assertEqual(told(library), told(Library.read(TEXT)))

    def test_lists_that_are_passed_in(self):
        library = Library.read(TEXT)
        callbacks, locks = ["out"], ["c", "b"]
        made = [library.with_callbacks("one", callbacks), library.keeping(locks)]
        self.assertEqual([callbacks, locks], [["out"], ["c", "b"]])
        before = [told(one) for one in made]
        callbacks.append("in")
        locks.clear()
        self.assertEqual([told(one) for one in made], before)
        self.assertEqual(made[0].callbacks("one"), ("out",))
        self.assertEqual(made[1].locks, ("b", "c"))
