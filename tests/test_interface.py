"""The interface of the document: each name is defined in the file under which it is listed."""

import ast
import importlib
import inspect
import pathlib
import unittest

PACKAGE = pathlib.Path(__file__).parents[1] / "heldcalls"

ERRORS = (
    "HeldError", "LineError", "BadForm", "Misplaced", "Duplicate", "Unknown", "NotNested", "TooMany", "TooLong",
    "NoName", "Repeated", "Overfull", "WrongMove", "BadRun", "NoThread", "MustWait", "Refused", "Deadlocked",
    "NoRequest", "NoContext", "NoRunCycle", "Clash", "NoLockOrder",
)

# The signature of each function and method that is listed, without the annotation of what it returns.
FUNCTIONS = {
    "reading": {"is_name": "(word)"},
    "layout": {
        "locks_at": "(library, routine)",
        "outer_blocks": "(library, routine)",
        "lengths_before": "(library, routine)",
        "call_length": "(library, routine)",
        "call_length_with": "(library, routine, hook)",
    },
    "threads": {"play": "(library, run)", "shortest_run": "(library, entry)"},
    "contexts": {"contexts": "(library)", "held_when_invoked": "(library, hook)"},
    "tables": {"table_of": "(library)"},
    "runs": {"run_to_context": "(library, routine, held)", "run_to_request": "(library, request)"},
    "cycles": {"request_cycles": "(table, *, threads)", "least_cycle": "(table)"},
    "chains": {"chains": "(table)", "closes": "(chain)"},
    "lockcycles": {"shortest_lock_cycle": "(locks, pairs)"},
    "finishing": {"finish": "(machine)"},
    "holds": {
        "final_acquisitions": "(library, run)",
        "acquired_since": "(library, run)",
        "lock_base": "(library, run, lock)",
    },
    "interleaving": {
        "interleave": "(library, runs)",
        "is_run_cycle": "(library, runs)",
        "force_deadlock": "(library, runs)",
    },
    "certificates": {"gaps": "(library, contexts, chains, *, reentrant=True)"},
    "verdicts": {"analyze": "(library, *, reentrant=True)"},
    "orders": {"lock_order": "(table)"},
    "remedies": {
        "smallest_deferrals": "(library, *, reentrant=True)",
        "widest_callbacks": "(library, hook, *, reentrant=True)",
    },
    "report": {"report": "(library, *, reentrant=True)"},
}
METHODS = {
    ("library", "Library"): {
        "written": "(self)",
        "statements": "(self, routine)",
        "callbacks": "(self, hook)",
        "is_deferred": "(self, hook)",
        "deferring": "(self, *hooks)",
        "with_callbacks": "(self, hook, callbacks)",
        "keeping": "(self, locks)",
        "__add__": "(self, other)",
    },
    ("threads", "Thread"): {
        "__init__": "(self, library, entry)",
        "moves": "(self)",
        "step": "(self, move)",
        "duplicate": "(self)",
    },
    ("tables", "Table"): {
        "__iter__": "(self)",
        "__len__": "(self)",
        "__contains__": "(self, x)",
        "__getitem__": "(self, at)",
        "__or__": "(self, other)",
        "self_requests": "(self)",
    },
    ("machine", "Machine"): {
        "__init__": "(self, library, *, reentrant=True)",
        "__len__": "(self)",
        "start": "(self, entry)",
        "step": "(self, thread, move)",
        "moves": "(self, thread)",
        "state_of": "(self, thread)",
        "holder": "(self, lock)",
        "waits_for": "(self, thread)",
        "deadlock": "(self)",
        "attempt": "(self, steps)",
        "duplicate": "(self)",
    },
    ("verdicts", "Verdict"): {"lines": "(self)"},
    ("verdicts", "Unsafe"): {"lines": "(self)", "called_back": "(self)", "__bool__": "(self)"},
    ("verdicts", "Safe"): {"lines": "(self)", "__bool__": "(self)"},
}
PROPERTIES = {
    ("library", "Library"): ("locks", "hooks", "routines", "entries"),
    ("threads", "Thread"): ("frames", "held", "held_set", "lock_stack", "pending", "length", "wants", "ended", "run"),
    ("tables", "Table"): ("locks",),
    ("machine", "Machine"): ("steps",),
}
CLASSES = {
    "errors": ERRORS, "reading": ("Bounds",), "library": ("Library",), "layout": (), "threads": ("Thread",),
    "contexts": (), "tables": ("Table",), "runs": (), "cycles": (), "chains": (), "lockcycles": (),
    "machine": ("Machine",), "finishing": (), "holds": (), "interleaving": (), "certificates": (),
    "verdicts": ("Verdict", "Unsafe", "Safe"), "orders": (), "remedies": (), "report": (),
}


def module(name):
    return importlib.import_module(f"heldcalls.{name}")


def defined_in(name):
    """The names of the functions and classes that stand at the top of the file."""
    tree = ast.parse((PACKAGE / f"{name}.py").read_text())
    return [node.name for node in tree.body if isinstance(node, (ast.FunctionDef, ast.ClassDef))]


class TestInterface(unittest.TestCase):
    def test_files_that_define_the_names(self):
        for name, classes in CLASSES.items():
            listed = {*classes, *FUNCTIONS.get(name, {})}
            self.assertTrue(listed)
            self.assertLessEqual(listed, set(defined_in(name)), name)

    def test_functions(self):
        for name, functions in FUNCTIONS.items():
            for function, signature in functions.items():
                self.assertEqual(str(inspect.signature(getattr(module(name), function))), signature)

    def test_methods_stand_in_the_class_itself(self):
        for (name, owner), methods in METHODS.items():
            body = vars(getattr(module(name), owner))
            for method, signature in methods.items():
                self.assertEqual(str(inspect.signature(body[method])), signature)

    def test_properties_stand_in_the_class_itself(self):
        for (name, owner), properties in PROPERTIES.items():
            body = vars(getattr(module(name), owner))
            for word in properties:
                self.assertIsInstance(body[word], property)

    def test_verdicts(self):
        verdicts = module("verdicts")
        self.assertEqual([verdicts.Unsafe.__bases__, verdicts.Safe.__bases__], [(verdicts.Verdict,)] * 2)

    def test_read_is_a_class_method(self):
        read = vars(module("library").Library)["read"]
        self.assertIsInstance(read, classmethod)
        self.assertEqual(str(inspect.signature(read.__func__)), "(cls, text)")
