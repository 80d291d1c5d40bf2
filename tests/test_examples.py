"""The examples of the document give what stands there."""

import pathlib
import re
import unittest

from tests.example_runner import FOLDER, examples_of, fits, outcome

DOC = pathlib.Path(__file__).parents[2] / "shared" / "DOC.md"


class TestExamples(unittest.TestCase):
    def test_each_example_gives_what_stands_there(self):
        for path in sorted(FOLDER.glob("*.txt")):
            for code, expected in examples_of(path.stem):
                with self.subTest(module=path.stem, code=code):
                    found = outcome(code)
                    self.assertTrue(fits(found, expected), f"{found!r} is not {expected}")

    def test_number_of_examples(self):
        counts = {path.stem: len(examples_of(path.stem)) for path in FOLDER.glob("*.txt")}
        self.assertEqual(counts, {"reading": 1, "library": 7, "layout": 3, "threads": 3, "contexts": 1, "tables": 2,
                                  "runs": 2, "cycles": 1, "chains": 1, "lockcycles": 1, "machine": 2,
                                  "finishing": 1, "holds": 1, "interleaving": 4, "certificates": 1, "verdicts": 4,
                                  "orders": 2, "remedies": 2, "report": 1})

    @unittest.skipUnless(DOC.is_file(), "the document is not here")
    def test_the_examples_stand_so_in_the_document(self):
        text = DOC.read_text()
        for path in sorted(FOLDER.glob("*.txt")):
            with self.subTest(module=path.stem):
                part = re.search(rf"^## heldcalls/{path.stem}\.py\n(.*?)(?=^## |\Z)", text, re.S | re.M)
                blocks = re.findall(r"^```\n(.*?)^```$", part.group(1), re.S | re.M)
                self.assertEqual(blocks, [path.read_text()])


class TestRunner(unittest.TestCase):
    def test_an_outcome_that_differs_does_not_fit(self):
        code = ["from heldcalls.library import Library", 'Library.read("lock a\\n")']
        self.assertTrue(fits(outcome(code), "raises BadForm(number=2)"))
        self.assertFalse(fits(outcome(code), "raises BadForm(number=1)"))
        self.assertFalse(fits(outcome(code), "raises Misplaced(number=2)"))
        self.assertFalse(fits(outcome(code), "[]"))
        self.assertFalse(fits("[True]", "[1]"))
        self.assertFalse(fits("()", "raises Overfull()"))
