"""Points 4 to 6: names, the text of a library, and the errors of its lines."""

import collections
import random
import string
import unittest

from heldcalls.library import Library
from heldcalls.reading import Bounds, is_name
from tests.slow_reader import first_error
from tests.support import error_of, random_text, text_of


def body(*statements):
    """Returns a text of two locks, a hook and a routine with these statements from line 5 on."""
    return text_of("lock a", "lock b", "hook h", "routine run", *statements, "end")


def numbered(word, count, end=()):
    """Returns lines that declare this many names, each followed by the lines end."""
    return [line for letter in string.ascii_lowercase[:count] for line in (f"{word} {letter}{word[0]}", *end)]


class TestNames(unittest.TestCase):
    def test_bounds(self):
        found = [Bounds.LOCKS, Bounds.HOOKS, Bounds.ROUTINES, Bounds.STATEMENTS, Bounds.LENGTH, Bounds.LETTERS]
        self.assertEqual(found, [5, 4, 5, 10, 60, 8])

    def test_words_that_are_names(self):
        for word in ("a", "z", "abcdefgh", "end", "lock", "entry", *string.ascii_lowercase):
            self.assertIs(is_name(word), True, word)

    def test_words_that_are_not_names(self):
        others = [sign for sign in map(chr, range(32, 127)) if sign not in string.ascii_lowercase]
        words = ["", "abcdefghi", "Lock", "a b", " a", "a ", "a\n", "\n", "a1", "a_b", "a-b", "\u00e9", "\u0430"]
        for word in [*words, *others, *["ab" + sign for sign in others]]:
            self.assertIs(is_name(word), False, word)

    def test_lengths_of_names_in_a_text(self):
        for word in ("lock", "hook", "deferred", "routine"):
            end = ["end"] if word == "routine" else []
            for name in ("a", "abcdefgh"):
                self.assertIsNone(error_of(text_of(f"{word} {name}", *end)))
            for name in ("", "abcdefghi"):
                self.assertEqual(error_of(text_of(f"{word} {name}", *end)), ("BadForm", 1))

    def test_no_name_is_reserved(self):
        words = ("lock", "hook", "deferred", "routine", "acquire", "release", "call", "maybe", "invoke", "entry", "end")
        for word in words:
            with self.subTest(word=word):
                locked = text_of(f"lock {word}", "routine run", f"acquire {word}", f"release {word}", "end")
                self.assertEqual(Library.read(locked).statements("run"), (("acquire", word), ("release", word)))
                hooked = text_of(f"hook {word}", "routine run", f"invoke {word}", "end")
                self.assertEqual(Library.read(hooked).hooks, (word,))
                called = text_of(f"hook h {word}", f"routine {word}", f"maybe {word}", "end", "routine run",
                                 f"call {word}", "end", f"entry {word}")
                self.assertEqual(Library.read(called).routines, (word, "run"))
                self.assertEqual(Library.read(called).entries, (word,))


class TestForms(unittest.TestCase):
    def test_the_empty_text(self):
        library = Library.read("")
        self.assertEqual([library.locks, library.hooks, library.routines, library.entries], [()] * 4)

    def test_empty_lines(self):
        self.assertEqual(error_of("\n"), ("BadForm", 1))
        self.assertEqual(error_of("lock a\n"), ("BadForm", 2))
        self.assertEqual(error_of("lock a\n\n"), ("BadForm", 2))
        self.assertEqual(error_of("\nlock a"), ("BadForm", 1))
        self.assertEqual(error_of("routine a\nend\n"), ("BadForm", 3))
        self.assertEqual(error_of("routine a\n"), ("BadForm", 2))

    def test_spaces(self):
        for line in ("lock a", "hook h", "hook h r", "deferred h r", "routine r", "end", "acquire a", "release a",
                     "call r", "maybe r", "invoke h", "entry r"):
            wrong = [" " + line, line + " ", line.replace(" ", "  "), line.replace(" ", "\t"), line + "\t"]
            for text in wrong:
                if text != line:
                    self.assertEqual(error_of(text), ("BadForm", 1), repr(text))
        for text in (" ", "  ", "hook h  r", "hook h r ", "end "):
            self.assertEqual(error_of(text), ("BadForm", 1), repr(text))

    def test_number_of_words(self):
        two = ("lock", "routine", "acquire", "release", "call", "maybe", "invoke", "entry")
        for line in (*two, *[f"{word} a b" for word in two], "hook", "deferred", "end a", "end end"):
            self.assertEqual(error_of(line), ("BadForm", 1), line)

    def test_other_words(self):
        for line in ("a", "a b", "Lock a", "locks a", "END", "end.", "lock A", "lock a1", "hook h R", "hook H r",
                     "deferred h r 1", "# lock a", "lock a,b"):
            self.assertEqual(error_of(line), ("BadForm", 1), line)

    def test_wrong_names_among_callbacks(self):
        good = text_of("hook h a abcdefgh", "routine a", "end", "routine abcdefgh", "end")
        self.assertIsNone(error_of(good))
        for name in ("abcdefghi", "A", "1"):
            self.assertEqual(error_of(f"hook h a {name}\nroutine a\nend"), ("BadForm", 1))

    def test_all_that_a_text_tells(self):
        library = Library.read(text_of(
            "lock b", "lock a", "hook one", "deferred two in out", "hook three out",
            "routine in", "acquire a", "maybe out", "release a", "end",
            "routine out", "call in", "invoke two", "end", "entry out", "entry in",
        ))
        self.assertEqual(library.locks, ("b", "a"))
        self.assertEqual(library.hooks, ("one", "two", "three"))
        self.assertEqual([library.callbacks(hook) for hook in library.hooks], [(), ("in", "out"), ("out",)])
        self.assertEqual([library.is_deferred(hook) for hook in library.hooks], [False, True, False])
        self.assertEqual(library.routines, ("in", "out"))
        self.assertEqual(library.statements("in"), (("acquire", "a"), ("maybe", "out"), ("release", "a")))
        self.assertEqual(library.statements("out"), (("call", "in"), ("invoke", "two")))
        self.assertEqual(library.entries, ("out", "in"))

    def test_each_part_may_be_missing(self):
        for text in ("lock a", "hook h", "deferred h", "routine r\nend", "lock a\nhook h", "hook h r\nroutine r\nend",
                     "lock a\nroutine r\nend\nentry r", "routine r\nend\nentry r", "lock a\nroutine r\nend"):
            self.assertIsNone(error_of(text), text)


class TestMisplaced(unittest.TestCase):
    def test_inside_of_a_routine(self):
        for line in ("lock b", "hook g", "deferred g", "routine go", "entry run", "lock a", "routine run"):
            self.assertEqual(error_of(body(line)), ("Misplaced", 5), line)

    def test_outside_of_a_routine(self):
        for line in ("acquire a", "release a", "call run", "maybe run", "invoke h", "end"):
            self.assertEqual(error_of(line), ("Misplaced", 1), line)
            self.assertEqual(error_of(text_of("lock a", line)), ("Misplaced", 2), line)
            self.assertEqual(error_of(text_of(body(), line)), ("Misplaced", 6), line)
            self.assertEqual(error_of(text_of(body(), "entry run", line)), ("Misplaced", 7), line)

    def test_order_of_the_parts(self):
        parts = {"lock x": ["hook h", "deferred h", "routine r\nend", "routine r\nend\nentry r"],
                 "hook x": ["routine r\nend", "routine r\nend\nentry r"],
                 "deferred x r": ["routine r\nend", "routine r\nend\nentry r"],
                 "routine x": ["routine r\nend\nentry r"]}
        for line, texts in parts.items():
            for text in texts:
                self.assertEqual(error_of(text_of(text, line)), ("Misplaced", text.count("\n") + 2), (text, line))

    def test_hooks_of_both_kinds_in_any_mixture(self):
        self.assertIsNone(error_of(text_of("lock a", "deferred e", "hook f", "deferred g", "hook h")))

    def test_a_routine_that_has_not_ended(self):
        self.assertEqual(error_of("routine run"), ("Misplaced", 2))
        self.assertEqual(error_of("lock a\nroutine run\nacquire a"), ("Misplaced", 4))
        self.assertEqual(error_of("hook h no\nroutine run\nmaybe none"), ("Misplaced", 4))


class TestDuplicateAndUnknown(unittest.TestCase):
    def test_names_that_are_declared_twice(self):
        lines = ["lock x", "hook x", "deferred x", "routine x\nend"]
        for first in range(4):
            for second in range(first, 4):
                text = text_of(lines[first], lines[second])
                self.assertEqual(error_of(text), ("Duplicate", lines[first].count("\n") + 2), text)
        self.assertEqual(error_of("deferred x\nhook x"), ("Duplicate", 2))

    def test_a_callback_that_stands_twice(self):
        for line in ("hook h r r", "deferred h r s r", "hook h none none", "hook h h h", "hook h a a"):
            self.assertEqual(error_of(text_of("lock a", line, "routine r", "end", "routine s", "end")),
                             ("Duplicate", 2), line)
        self.assertIsNone(error_of(text_of("hook h r s", "routine r", "end", "routine s", "end")))
        self.assertIsNone(error_of(text_of("hook g r", "hook h r", "routine r", "end")))

    def test_an_entry_that_stands_twice(self):
        text = text_of("routine r", "end", "routine s", "end", "entry r", "entry s")
        self.assertIsNone(error_of(text))
        self.assertEqual(error_of(text_of(text, "entry r")), ("Duplicate", 7))
        self.assertEqual(error_of(text_of(text, "entry s")), ("Duplicate", 7))

    def test_unknown_names_in_statements(self):
        for name in ("none", "h", "run"):
            self.assertEqual(error_of(body(f"acquire {name}")), ("Unknown", 5))
            self.assertEqual(error_of(body(f"release {name}")), ("Unknown", 5))
        for name in ("none", "a", "run"):
            self.assertEqual(error_of(body(f"invoke {name}")), ("Unknown", 5))
        for name in ("none", "a", "h", "run"):
            self.assertEqual(error_of(body(f"call {name}")), ("Unknown", 5))

    def test_calls_of_earlier_and_later_routines(self):
        earlier = text_of("routine r", "end", "routine s", "call r", "end")
        later = text_of("routine s", "call r", "end", "routine r", "end")
        self.assertEqual([error_of(earlier), error_of(later)], [None, ("Unknown", 2)])

    def test_unknown_entries(self):
        for name in ("none", "a", "h"):
            self.assertEqual(error_of(text_of(body(), f"entry {name}")), ("Unknown", 6))
        self.assertEqual(error_of("entry r"), ("Unknown", 1))

    def test_a_hook_or_maybe_line_may_name_later_routines_and_the_routine_itself(self):
        self.assertIsNone(error_of(text_of("hook h r s", "routine r", "maybe r", "maybe s", "end", "routine s", "end")))

    def test_unknown_callbacks_and_maybe_names(self):
        for name in ("none", "a", "h"):
            text = text_of("lock a", "hook g r", f"hook h r {name}", "routine r", f"maybe {name}", "end", "entry r")
            self.assertEqual(error_of(text), ("Unknown", 3))
            text = text_of("lock a", "hook h r", "routine r", "maybe r", f"maybe {name}", f"maybe {name}", "end")
            self.assertEqual(error_of(text), ("Unknown", 5))
        self.assertEqual(error_of("deferred h none"), ("Unknown", 1))

    def test_they_are_looked_at_only_behind_the_last_line(self):
        start = ("hook h none", "routine r", "maybe nobody", "end")
        self.assertEqual(error_of(text_of(*start)), ("Unknown", 1))
        self.assertEqual(error_of(text_of(*start, "entry s")), ("Unknown", 5))
        self.assertEqual(error_of(text_of(*start, "")), ("BadForm", 5))
        self.assertEqual(error_of(text_of(*start, "routine s")), ("Misplaced", 6))


class TestNesting(unittest.TestCase):
    def test_nested(self):
        for words in ("", "+a-a", "+a+b-b-a", "+a+a-a-a", "+a-a+a-a", "+a+b+a-a-b+b-b-a"):
            self.assertIsNone(error_of(body(*self.statements(words))), words)

    def test_not_nested(self):
        for words in ("-a", "+a-b", "+a+b-a", "+a-a-a", "+a+b-b-b", "+a+a-a-a-a", "+b-b-a"):
            lines = self.statements(words)
            self.assertEqual(error_of(body(*lines)), ("NotNested", 4 + len(lines)), words)

    def test_an_acquire_that_is_not_released(self):
        for words in ("+a", "+a+b-b", "+a-a+a", "+a+a-a"):
            lines = self.statements(words)
            self.assertEqual(error_of(body(*lines)), ("NotNested", 5 + len(lines)), words)

    def test_each_routine_for_itself(self):
        text = text_of("lock a", "routine r", "acquire a", "release a", "end", "routine s", "release a", "end")
        self.assertEqual(error_of(text), ("NotNested", 7))

    @staticmethod
    def statements(words):
        word = {"+": "acquire", "-": "release"}
        return [f"{word[words[at]]} {words[at + 1]}" for at in range(0, len(words), 2)]


class TestTooMany(unittest.TestCase):
    def test_locks(self):
        self.assertIsNone(error_of(text_of(*numbered("lock", 5))))
        self.assertEqual(error_of(text_of(*numbered("lock", 6))), ("TooMany", 6))
        self.assertEqual(error_of(text_of(*numbered("lock", 5), "lock al")), ("Duplicate", 6))

    def test_hooks(self):
        self.assertIsNone(error_of(text_of(*numbered("hook", 4))))
        self.assertEqual(error_of(text_of(*numbered("hook", 5))), ("TooMany", 5))
        self.assertIsNone(error_of(text_of(*numbered("deferred", 4))))
        self.assertEqual(error_of(text_of(*numbered("deferred", 5))), ("TooMany", 5))
        self.assertIsNone(error_of(text_of(*numbered("deferred", 2), *numbered("hook", 2))))
        self.assertEqual(error_of(text_of(*numbered("deferred", 2), *numbered("hook", 3))), ("TooMany", 5))
        self.assertEqual(error_of(text_of(*numbered("hook", 4), "hook ah")), ("Duplicate", 5))
        self.assertEqual(error_of(text_of(*numbered("hook", 4), "hook x r r")), ("Duplicate", 5))
        self.assertEqual(error_of(text_of(*numbered("hook", 4), "hook x none")), ("TooMany", 5))

    def test_routines(self):
        self.assertIsNone(error_of(text_of(*numbered("routine", 5, ["end"]))))
        self.assertEqual(error_of(text_of(*numbered("routine", 6, ["end"]))), ("TooMany", 11))
        self.assertEqual(error_of(text_of(*numbered("routine", 5, ["end"]), "routine ar")), ("Duplicate", 11))

    def test_statements(self):
        self.assertIsNone(error_of(body(*["invoke h"] * 10)))
        self.assertEqual(error_of(body(*["invoke h"] * 11)), ("TooMany", 15))
        self.assertIsNone(error_of(body(*["acquire a"] * 5, *["release a"] * 5)))
        self.assertEqual(error_of(body(*["invoke h"] * 10, "maybe none")), ("TooMany", 15))
        self.assertEqual(error_of(body(*["invoke h"] * 10, "invoke none")), ("Unknown", 15))
        self.assertEqual(error_of(body(*["invoke h"] * 10, "release a")), ("NotNested", 15))
        self.assertEqual(error_of(body(*["acquire a"] * 6, *["release a"] * 5)), ("TooMany", 15))

    def test_statements_of_each_routine_for_itself(self):
        routine = ["invoke h"] * 10
        self.assertIsNone(error_of(text_of("hook h", "routine r", *routine, "end", "routine s", *routine, "end")))


class TestTooLong(unittest.TestCase):
    def setUp(self):
        # Call lengths: small 1, big 11.
        self.start = ("hook h", "routine small", "end", "routine big", *["invoke h"] * 10, "end", "routine run")

    def test_call_lengths_60_and_61(self):
        longest = ["call big"] * 4 + ["call small"] * 5
        self.assertIsNone(error_of(text_of(*self.start, *longest, "maybe run", "end")))
        self.assertEqual(error_of(text_of(*self.start, *longest, "call small", "end")), ("TooLong", len(self.start) + 11))
        self.assertEqual(error_of(text_of(*self.start, *["call big"] * 5, "end")), ("TooLong", len(self.start) + 6))

    def test_maybe_and_invoke_count_one(self):
        text = text_of(*self.start, *["maybe big"] * 6, *["invoke h"] * 4, "end").replace("hook h", "hook h big")
        self.assertIsNone(error_of(text))

    def test_calls_inside_of_calls(self):
        start = (*self.start, *["call big"] * 4, "end", "routine last")
        self.assertIsNone(error_of(text_of(*start, "call run", *["maybe run"] * 9, "end")))
        self.assertIsNone(error_of(text_of(*start, "call run", *["maybe run"] * 7, "call small", "end")))
        self.assertEqual(error_of(text_of(*start, "call run", *["maybe run"] * 8, "call small", "end")),
                         ("TooLong", len(start) + 11))
        self.assertEqual(error_of(text_of(*start, "call run", "call big", "end")), ("TooLong", len(start) + 3))

    def test_not_nested_comes_before_too_long(self):
        text = text_of("lock a", *self.start, "acquire a", *["call big"] * 5, "end")
        self.assertEqual(error_of(text), ("NotNested", len(self.start) + 8))


class TestOrderOfTheRules(unittest.TestCase):
    def test_two_rules_of_one_line(self):
        cases = {
            "BadForm before Misplaced": ("routine r\nlock A", ("BadForm", 2)),
            "BadForm before Duplicate": ("lock a\nlock a ", ("BadForm", 2)),
            "BadForm before Duplicate callbacks": ("hook h r r B", ("BadForm", 1)),
            "Misplaced before Duplicate": ("lock a\nhook h\nlock a", ("Misplaced", 3)),
            "Misplaced before Duplicate callbacks": ("routine r\nend\nhook h r r", ("Misplaced", 3)),
            "Misplaced before Unknown": ("acquire a", ("Misplaced", 1)),
            "Misplaced before Unknown entry": ("routine r\nentry s", ("Misplaced", 2)),
            "Misplaced before NotNested": ("lock a\nroutine r\nacquire a\nroutine r", ("Misplaced", 4)),
            "Misplaced before TooMany": (text_of(*numbered("lock", 5), "hook h", "lock x"), ("Misplaced", 7)),
            "Misplaced before TooMany routines":
                (text_of(*numbered("routine", 5, ["end"]), "entry ar", "routine x"), ("Misplaced", 12)),
            "Unknown before NotNested": ("lock a\nroutine r\nacquire a\nrelease b", ("Unknown", 4)),
        }
        for name, (text, expected) in cases.items():
            self.assertEqual(error_of(text), expected, name)

    def test_the_first_wrong_line_wins(self):
        self.assertEqual(error_of("lock a\nlock a\nlock A"), ("Duplicate", 2))
        self.assertEqual(error_of("lock a\nroutine r\nrelease a\nacquire b\nlock"), ("NotNested", 3))
        self.assertEqual(error_of("hook h\nlock a\n"), ("Misplaced", 2))
        self.assertEqual(error_of(text_of(*numbered("lock", 6), "lock A")), ("TooMany", 6))
        self.assertEqual(error_of("hook h none\nroutine r\ncall r\nend"), ("Unknown", 3))


class TestManyTexts(unittest.TestCase):
    """Texts with small changes give the same errors as the second reader."""

    def test_changed_texts(self):
        chance = random.Random(1)
        seen = collections.Counter()
        for seed in range(2500):
            text = random_text(seed)
            self.assertIsNone(error_of(text), text)
            for _ in range(chance.randint(1, 3)):
                text = self.changed(text, chance)
            expected = first_error(text)
            self.assertEqual(error_of(text), expected, text)
            seen[expected[0] if expected else None] += 1
        kinds = (None, "BadForm", "Misplaced", "Duplicate", "Unknown", "NotNested", "TooMany")
        self.assertEqual({kind for kind in kinds if seen[kind] < 15}, set(), seen)

    def test_texts_of_many_calls(self):
        chance = random.Random(2)
        seen = collections.Counter()
        for _ in range(400):
            lines = []
            for number in range(chance.randint(1, 5)):
                words = ["maybe a", *[f"call {name}" for name in "abcde"[:number]]]
                lines += [f"routine {'abcde'[number]}", *chance.choices(words, k=chance.randint(0, 10)), "end"]
            text = "\n".join(lines)
            expected = first_error(text)
            self.assertEqual(error_of(text), expected, text)
            seen[expected[0] if expected else None] += 1
        self.assertEqual(set(seen), {None, "TooLong"})
        self.assertGreater(min(seen.values()), 50)

    @staticmethod
    def changed(text, chance):
        lines = text.split("\n")
        at, other = chance.randrange(len(lines)), chance.randrange(len(lines))
        words = text.split()
        kind = chance.randint(0, 8)
        if kind == 0:
            del lines[at]
        elif kind == 1:
            lines[at], lines[other] = lines[other], lines[at]
        elif kind == 2:
            lines.insert(at, lines[other])
        elif kind == 3 and words:
            parts = lines[at].split(" ")
            parts[chance.randrange(len(parts))] = chance.choice(words)
            lines[at] = " ".join(parts)
        elif kind == 4:
            place = chance.randint(0, len(lines[at]))
            lines[at] = lines[at][:place] + chance.choice(" aA1") + lines[at][place:]
        elif kind == 5:
            lines[at:at + 1] = [lines[at]] * chance.randint(2, 11)
        elif kind == 6:
            lines[at + 1:at + 1] = [chance.choice(["lock q", "hook q", "deferred q", "routine q\nend", "entry q"])]
        elif kind == 7:
            calls = [name for name in words if f"\nroutine {name}\n" in text]
            if calls and "end" in lines:
                end = chance.choice([k for k in range(len(lines)) if lines[k] == "end"])
                lines[end:end] = [f"call {chance.choice(calls)}"] * chance.randint(1, 8)
        elif words:
            lines[at] += " " + chance.choice(words)
        return "\n".join(lines)
