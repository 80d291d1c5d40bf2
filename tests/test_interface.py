"""The interface of the document: each name is defined in the file under which it is listed."""

import ast
import importlib
import inspect
import pathlib
import unittest

PACKAGE = pathlib.Path(__file__).parents[1] / "heldcalls"

ERRORS = (
    "HeldError", "LineError", "BadForm", "Misplaced", "Duplicate", "Unknown", "NotNested", "TooMany", "TooLong",
    "NoName", "Repeated", "Overfull", "WrongMove", "BadRun", "NoThread", "MustWait", "Refused", "Deadlocked",
    "NoRequest", "NoContext", "NoRunCycle", "Clash", "NoLockOrder",
)

# The signature of each function and method that is listed, without the annotation of what it returns.
FUNCTIONS = {
    "reading": {"is_name": "(word)"},
    "layout": {
        "locks_at": "(library, routine)",
        "outer_blocks": "(library, routine)",
        "lengths_before": "(library, routine)",
        "call_length": "(library, routine)",
        "call_length_with": "(library, routine, hook)",
    },
}
METHODS = {
    ("library", "Library"): {
        "written": "(self)",
        "statements": "(self, routine)",
        "callbacks": "(self, hook)",
        "is_deferred": "(self, hook)",
        "deferring": "(self, *hooks)",
        "with_callbacks": "(self, hook, callbacks)",
        "keeping": "(self, locks)",
        "__add__": "(self, other)",
    },
}
PROPERTIES = {("library", "Library"): ("locks", "hooks", "routines", "entries")}
CLASSES = {"errors": ERRORS, "reading": ("Bounds",), "library": ("Library",), "layout": ()}


def module(name):
    return importlib.import_module(f"heldcalls.{name}")


def defined_in(name):
    """The names of the functions and classes that stand at the top of the file."""
    tree = ast.parse((PACKAGE / f"{name}.py").read_text())
    return [node.name for node in tree.body if isinstance(node, (ast.FunctionDef, ast.ClassDef))]


class TestInterface(unittest.TestCase):
    def test_files_that_define_the_names(self):
        for name, classes in CLASSES.items():
            listed = {*classes, *FUNCTIONS.get(name, {})}
            self.assertLessEqual(listed, set(defined_in(name)), name)

    def test_functions(self):
        for name, functions in FUNCTIONS.items():
            for function, signature in functions.items():
                self.assertEqual(str(inspect.signature(getattr(module(name), function))), signature)

    def test_methods_stand_in_the_class_itself(self):
        for (name, owner), methods in METHODS.items():
            body = vars(getattr(module(name), owner))
            for method, signature in methods.items():
                self.assertEqual(str(inspect.signature(body[method])), signature)

    def test_properties_stand_in_the_class_itself(self):
        for (name, owner), properties in PROPERTIES.items():
            body = vars(getattr(module(name), owner))
            for word in properties:
                self.assertIsInstance(body[word], property)

    def test_read_is_a_class_method(self):
        read = vars(module("library").Library)["read"]
        self.assertIsInstance(read, classmethod)
        self.assertEqual(str(inspect.signature(read.__func__)), "(cls, text)")
