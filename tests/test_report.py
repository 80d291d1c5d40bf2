"""Point 50: reports."""

import unittest

from heldcalls.library import Library
from heldcalls.report import report
from heldcalls.tables import table_of
from heldcalls.verdicts import analyze
from tests.support import dense_text, full_text, random_text, text_of

HEAD = "held" + " " * 40 + "wants    length"
KINDS = (True, False)


class TestReport(unittest.TestCase):
    def test_the_empty_library(self):
        self.assertEqual(report(Library.read("")), [
            HEAD, "a lock may be acquired again by its holder", "no deadlock can come: 0 contexts, 0 chains"])
        self.assertEqual(report(Library.read(""), reentrant=False), [
            HEAD, "a lock may not be acquired again by its holder", "no deadlock can come: 0 contexts, 0 chains"])

    def test_columns(self):
        text = text_of("lock b", "lock a", "lock long", "routine low", *["acquire a", "release a"] * 5, "end",
                       "routine r", "acquire a", "acquire b", "acquire long", "release long", "release b",
                       "release a", "call low", "acquire b", "release b", "end", "entry r")
        self.assertEqual(report(Library.read(text)), [
            "held                                        wants    length",
            "-                                           b            18",
            "-                                           a             0",
            "b a                                         long          2",
            "a                                           b             1",
            "a lock may be acquired again by its holder",
            "no deadlock can come: 2 contexts, 2 chains"])

    def test_names_of_eight_letters(self):
        locks = ["aaaaaaaa", "bbbbbbbb", "cccccccc", "dddddddd", "eeeeeeee"]
        text = text_of(*[f"lock {lock}" for lock in locks], "routine nestings", *[f"acquire {lock}" for lock in locks],
                       *[f"release {lock}" for lock in reversed(locks)], "end", "routine another",
                       *[f"acquire {lock}" for lock in locks[:4]], "call nestings",
                       *[f"release {lock}" for lock in reversed(locks[:4])], "end",
                       "routine entrance", "acquire eeeeeeee", "call another", "release eeeeeeee", "end",
                       "entry entrance")
        lines = report(Library.read(text), reentrant=False)
        whole = "aaaaaaaa bbbbbbbb cccccccc dddddddd eeeeeeee"
        self.assertEqual(len(whole), 44)
        self.assertIn(whole + "aaaaaaaa      7", lines)
        self.assertIn("aaaaaaaa bbbbbbbb eeeeeeee" + " " * 18 + "cccccccc      4", lines)
        self.assertEqual({len(line) for line in lines[:-3]}, {59})
        self.assertEqual(lines[-3:], [
            "a lock may not be acquired again by its holder", "a deadlock of 1 can come after 7 statements",
            f"thread 0 holds {whole} and wants aaaaaaaa"])

    def test_the_lines_of_the_verdict_for_the_same_kind(self):
        text = text_of("lock a", "hook saw get", "routine get", "acquire a", "release a", "end", "routine put",
                       "acquire a", "invoke saw", "release a", "end", "entry put")
        library = Library.read(text)
        self.assertEqual(report(library)[-2:], ["a lock may be acquired again by its holder",
                                                "no deadlock can come: 2 contexts, 0 chains"])
        self.assertEqual(report(library), report(library, reentrant=True))
        self.assertEqual(report(library, reentrant=False)[-3:], [
            "a lock may not be acquired again by its holder", "a deadlock of 1 can come after 2 statements",
            "thread 0 holds a and wants a"])
        with self.assertRaises(TypeError):
            report(library, False)

    def test_a_new_list_at_each_call(self):
        library = Library.read("lock a\nroutine r\nacquire a\nrelease a\nend\nentry r")
        first = report(library)
        self.assertIs(type(first), list)
        kept = list(first)
        first.append("more")
        first[0] = ""
        self.assertEqual(report(library), kept)

    def test_random_libraries(self):
        for seed in range(45):
            library = Library.read([dense_text, random_text, full_text][seed % 3](seed))
            table = table_of(library)
            for reentrant in KINDS:
                lines = report(library, reentrant=reentrant)
                self.assertEqual(lines[0], HEAD)
                rows = lines[1:len(table) + 1]
                self.assertEqual([len(row) for row in rows], [59] * len(table))
                for row, (held, wanted) in zip(rows, table):
                    self.assertEqual(row[:44].rstrip(" "), " ".join(held) or "-")
                    self.assertEqual(row[44:53].rstrip(" "), wanted)
                    self.assertEqual(row[53:].lstrip(" "), str(table[held, wanted]))
                self.assertEqual(lines[len(table) + 1:], analyze(library, reentrant=reentrant).lines())
