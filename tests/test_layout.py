"""Points 9 to 12: places, outer blocks, lengths, and the call length with a hook."""

import unittest

from heldcalls.errors import NoName
from heldcalls.layout import call_length, call_length_with, lengths_before, locks_at, outer_blocks
from heldcalls.library import Library
from tests.calls import call_by_default_moves, least_call_with
from tests.support import random_text, text_of


def routine_of(*statements, before=()):
    """Returns a library with the locks a and b, the hook h and a routine with these statements."""
    return Library.read(text_of("lock a", "lock b", "hook h", *before, "routine run", *statements, "end"))


class TestLocksAt(unittest.TestCase):
    def test_without_statements(self):
        self.assertEqual(locks_at(routine_of(), "run"), ((),))

    def test_without_acquires(self):
        self.assertEqual(locks_at(routine_of("invoke h", "maybe run"), "run"), ((), (), ()))

    def test_order_of_the_acquires(self):
        library = routine_of("acquire b", "acquire a", "invoke h", "release a", "release b")
        self.assertEqual(locks_at(library, "run"), ((), ("b",), ("b", "a"), ("b", "a"), ("b",), ()))

    def test_repeats(self):
        library = routine_of("acquire a", "acquire b", "acquire a", "release a", "release b", "release a")
        self.assertEqual(locks_at(library, "run"),
                         ((), ("a",), ("a", "b"), ("a", "b", "a"), ("a", "b"), ("a",), ()))

    def test_calls_do_not_count(self):
        before = ("routine first", "acquire a", "release a", "end")
        library = routine_of("acquire b", "call first", "release b", before=before)
        self.assertEqual(locks_at(library, "run"), ((), ("b",), ("b",), ()))
        self.assertEqual(locks_at(library, "first"), ((), ("a",), ()))

    def test_as_the_point_says(self):
        for seed in range(200):
            library = Library.read(random_text(seed))
            for routine in library.routines:
                statements = library.statements(routine)
                found = locks_at(library, routine)
                self.assertIs(type(found), tuple)
                self.assertEqual(len(found), len(statements) + 1)
                for place, held in enumerate(found):
                    many = sum({"acquire": 1, "release": -1}.get(word, 0) for word, _ in statements[:place])
                    self.assertEqual((type(held), len(held)), (tuple, many))
                for place, (word, name) in enumerate(statements):
                    if word == "acquire":
                        self.assertEqual(found[place + 1], found[place] + (name,))
                    elif word == "release":
                        self.assertEqual(found[place], found[place + 1] + (name,))
                    else:
                        self.assertEqual(found[place + 1], found[place])


class TestOuterBlocks(unittest.TestCase):
    def test_none(self):
        self.assertEqual(outer_blocks(routine_of(), "run"), ())
        self.assertEqual(outer_blocks(routine_of("invoke h"), "run"), ())

    def test_several(self):
        library = routine_of("acquire a", "release a", "invoke h", "acquire b", "maybe run", "release b", "invoke h")
        self.assertEqual(outer_blocks(library, "run"), ((0, 1), (3, 5)))

    def test_blocks_side_by_side(self):
        library = routine_of("acquire a", "release a", "acquire a", "release a")
        self.assertEqual(outer_blocks(library, "run"), ((0, 1), (2, 3)))

    def test_inner_blocks_do_not_count(self):
        library = routine_of("acquire a", "acquire b", "release b", "acquire b", "release b", "release a")
        self.assertEqual(outer_blocks(library, "run"), ((0, 5),))
        library = routine_of("acquire a", "acquire a", "release a", "invoke h", "release a")
        self.assertEqual(outer_blocks(library, "run"), ((0, 4),))

    def test_as_the_point_says(self):
        for seed in range(200):
            library = Library.read(random_text(seed))
            for routine in library.routines:
                found = outer_blocks(library, routine)
                self.assertEqual({type(found), *map(type, found)} - {tuple}, set())
                self.assertEqual(found, tuple(self.blocks(library.statements(routine))))

    @staticmethod
    def blocks(statements):
        opened = []
        for place, (word, _) in enumerate(statements):
            if word == "acquire":
                opened.append(place)
            if word == "release":
                first = opened.pop()
                if not opened:
                    yield first, place


class TestLengths(unittest.TestCase):
    def test_without_statements(self):
        self.assertEqual([lengths_before(routine_of(), "run"), call_length(routine_of(), "run")], [(0,), 1])

    def test_only_calls_count_more_than_one(self):
        before = ("routine first", "maybe run", "invoke h", "end")
        library = routine_of("acquire a", "maybe first", "call first", "invoke h", "release a", before=before)
        self.assertEqual(lengths_before(library, "first"), (0, 1, 2))
        self.assertEqual(call_length(library, "first"), 3)
        self.assertEqual(lengths_before(library, "run"), (0, 1, 2, 6, 7, 8))
        self.assertEqual(call_length(library, "run"), 9)

    def test_calls_inside_of_calls(self):
        before = ("routine one", "invoke h", "end", "routine two", "call one", "call one", "end")
        library = routine_of("call two", "call one", before=before)
        self.assertEqual([call_length(library, routine) for routine in library.routines], [2, 7, 12])
        self.assertEqual(lengths_before(library, "run"), (0, 8, 11))

    def test_the_longest_call(self):
        before = ("routine empty", "end", "routine full", *["invoke h"] * 10, "end")
        library = routine_of(*["call full"] * 4, *["call empty"] * 5, "maybe full", before=before)
        self.assertEqual(lengths_before(library, "run"), (0, 12, 24, 36, 48, 50, 52, 54, 56, 58, 59))
        self.assertEqual(call_length(library, "run"), 60)

    def test_default_moves(self):
        for seed in range(300):
            library = Library.read(random_text(seed))
            for routine in library.routines:
                found = lengths_before(library, routine)
                self.assertEqual((type(found), {*map(type, found)}), (tuple, {int}))
                self.assertEqual(call_length(library, routine), found[-1] + 1)
                self.assertEqual(call_length(library, routine), call_by_default_moves(library, routine))
                lengths = [1 + (call_by_default_moves(library, name) if word == "call" else 0)
                           for word, name in library.statements(routine)]
                self.assertEqual(found, tuple(sum(lengths[:place]) for place in range(len(found))))

    def test_libraries_that_were_made(self):
        library = routine_of("acquire a", "call first", "release a",
                             before=("routine first", "acquire b", "release b", "end"))
        self.assertEqual(call_length(library, "run"), 7)
        self.assertEqual(call_length(library.keeping(["b"]), "run"), 5)
        self.assertEqual(call_length(library.keeping([]), "run"), 3)
        self.assertEqual(call_length(Library.read("routine r\nend") + library, "run"), 7)


class TestCallLengthWith(unittest.TestCase):
    def lengths(self, *lines, hook="h"):
        library = Library.read(text_of(*lines))
        return [call_length_with(library, routine, hook) for routine in library.routines]

    def test_the_routine_invokes_the_hook_itself(self):
        self.assertEqual(self.lengths("hook h", "routine r", "invoke h", "end"), [2])
        self.assertEqual(self.lengths("hook h r", "routine r", "maybe r", "invoke h", "invoke h", "end"), [4])

    def test_no_such_call(self):
        self.assertEqual(self.lengths("hook h r", "hook g", "routine r", "invoke g", "maybe r", "end"), [None])
        self.assertEqual(self.lengths("hook h", "routine r", "maybe s", "end", "routine s", "call r", "maybe r", "end"),
                         [None, None])

    def test_a_call_adds_nothing(self):
        self.assertEqual(self.lengths("hook h", "routine r", "invoke h", "end", "routine s", "call r", "end"), [2, 4])

    def test_a_call_passes_on_the_extra(self):
        self.assertEqual(self.lengths("hook h", "routine r", "invoke h", "end", "routine s", "maybe r", "end",
                                      "routine t", "call s", "end"), [2, 4, 6])

    def test_a_maybe_adds_the_call(self):
        self.assertEqual(self.lengths("hook h", "routine r", "maybe s", "end", "routine s", "invoke h", "maybe r",
                                      "end"), [5, 3])

    def test_callbacks_of_an_immediate_hook_add_the_call(self):
        lines = ("hook h", "hook g s", "routine r", "invoke g", "end", "routine s", "invoke h", "end")
        self.assertEqual(self.lengths(*lines), [4, 2])

    def test_callbacks_of_a_deferred_hook_do_not_count(self):
        lines = ("hook h", "deferred g s", "routine r", "invoke g", "end", "routine s", "invoke h", "end")
        self.assertEqual(self.lengths(*lines), [None, 2])

    def test_the_hook_itself_may_be_deferred(self):
        for word in ("hook", "deferred"):
            lines = (f"{word} h s", "hook g s", "routine r", "invoke g", "end", "routine s", "invoke h", "end")
            self.assertEqual(self.lengths(*lines), [4, 2])

    def test_the_least_of_several_ways(self):
        ways = ("hook h", "hook g one two", "routine one", "invoke h", "maybe one", "maybe one", "end",
                "routine two", "invoke h", "end")
        self.assertEqual(self.lengths(*ways, "routine run", "maybe one", "maybe two", "end"), [4, 2, 5])
        self.assertEqual(self.lengths(*ways, "routine run", "maybe one", "invoke g", "end"), [4, 2, 5])
        self.assertEqual(self.lengths(*ways, "routine run", "maybe one", "end"), [4, 2, 6])
        self.assertEqual(self.lengths(*ways, "routine run", "maybe one", "call one", "maybe two", "end"), [4, 2, 8])
        self.assertEqual(self.lengths(*ways, "routine run", "maybe one", "invoke h", "end"), [4, 2, 3])

    def test_an_earlier_routine_that_has_no_extra_does_not_count(self):
        self.assertEqual(self.lengths("hook h", "hook g one two", "routine one", "end", "routine two", "invoke h",
                                      "end", "routine run", "maybe one", "invoke g", "end"), [None, 2, 5])

    def test_round_in_circles(self):
        lines = ("hook h", "hook g one", "routine one", "invoke g", "maybe one", "maybe two", "end",
                 "routine two", "maybe one", "maybe three", "end", "routine three", "maybe two", "maybe four", "end",
                 "routine four", "maybe three", "invoke h", "end")
        self.assertEqual(self.lengths(*lines), [13, 9, 6, 3])

    def test_a_long_way(self):
        full = ["maybe none"] * 9
        lines = ["hook h"]
        for name, other in zip("abcde", "bcde "):
            lines += [f"routine {name}", *[word.replace("none", name) for word in full],
                      f"maybe {other}" if other != " " else "invoke h", "end"]
        self.assertEqual(self.lengths(*lines), [55, 44, 33, 22, 11])

    def test_one_hook_of_several(self):
        library = Library.read(text_of("hook h", "hook g r", "routine r", "invoke h", "end", "routine s", "invoke g",
                                       "end"))
        found = [[call_length_with(library, routine, hook) for hook in "hg"] for routine in "rs"]
        self.assertEqual(found, [[2, None], [4, 2]])

    def test_random_libraries(self):
        found = []
        for seed in range(400):
            library = Library.read(random_text(seed, statements=5 + seed % 6))
            for routine in library.routines:
                for hook in library.hooks:
                    length = call_length_with(library, routine, hook)
                    self.assertEqual(length, least_call_with(library, routine, hook),
                                     (routine, hook, library.written()))
                    found.append(length is not None and length - call_length(library, routine))
        self.assertGreater(sum(extra is False for extra in found), 50)
        self.assertGreater(sum(type(extra) is int and extra > 0 for extra in found), 200)
        self.assertGreater(len(set(found)), 10)


class TestWrongNames(unittest.TestCase):
    def test_no_such_routine(self):
        library = routine_of("invoke h")
        for function in (locks_at, outer_blocks, lengths_before, call_length):
            for name in ("none", "a", "h", ""):
                with self.assertRaises(NoName) as caught:
                    function(library, name)
                self.assertEqual((type(caught.exception), caught.exception.name), (NoName, name))

    def test_call_length_with(self):
        library = routine_of("invoke h")
        for routine, hook, name in (("none", "h", "none"), ("none", "nohook", "none"), ("h", "run", "h"),
                                    ("run", "nohook", "nohook"), ("run", "a", "a"), ("run", "run", "run")):
            with self.assertRaises(NoName) as caught:
                call_length_with(library, routine, hook)
            self.assertEqual(caught.exception.name, name)
        with self.assertRaises(NoName) as caught:
            call_length_with(Library.read("routine run\nend"), "run", "h")
        self.assertEqual(caught.exception.name, "h")

    def test_nothing_changes(self):
        library = routine_of("acquire a", "invoke h", "release a")
        text = library.written()
        for _ in range(2):
            self.assertEqual(locks_at(library, "run"), ((), ("a",), ("a",), ()))
            self.assertEqual(outer_blocks(library, "run"), ((0, 2),))
            self.assertEqual(lengths_before(library, "run"), (0, 1, 2, 3))
            self.assertEqual(call_length_with(library, "run", "h"), 4)
            self.assertEqual(library.written(), text)
