"""The rules of LANGUAGE.md that are easy to check by a program.

A file that passes here may still break other rules: they must be read.
"""

import ast
import builtins
import pathlib
import re
import unittest

PACKAGE = pathlib.Path(__file__).parents[1] / "heldcalls"

BUILTINS = set("""
    len range enumerate zip min max sum abs sorted reversed int str bool bytes list tuple dict set frozenset
    isinstance ord repr any all divmod pow getattr hasattr setattr iter next map type property staticmethod
    classmethod super NotImplemented Exception ValueError TypeError KeyError IndexError LookupError
    ZeroDivisionError ArithmeticError OverflowError RuntimeError NotImplementedError AttributeError
""".split())
DOUBLE = {"init", "eq", "repr", "str", "len", "enter", "exit", "call", "iter", "add", "bool", "contains", "getitem",
          "or", "lt", "le", "gt", "ge", "ne"}
BUILTIN_METHODS = set("""
    append clear copy count endswith extend find get index insert isalpha isdigit items join keys ljust lower lstrip
    partition pop remove replace reverse rjust rpartition rsplit rstrip setdefault split splitlines startswith strip
    update upper values zfill
""".split())
LIBRARY = {"heapq", "math", "itertools", "collections"}
DECORATORS = re.compile(r"property|classmethod|staticmethod|\w+\.setter")
WORDS = re.compile(r"\b(type|typing|enum|Enum|IntEnum|Flag|Generic|Protocol|ABC|NamedTuple|namedtuple|abstractmethod"
                   r"|mro|elements|open|input|law|eval|exec|compile|globals|locals|vars|os|sys|async|await)\b")
STATEMENTS = (
    ast.Assign, ast.AugAssign, ast.AnnAssign, ast.If, ast.While, ast.For, ast.Return, ast.Break, ast.Continue,
    ast.Pass, ast.Raise, ast.Assert, ast.Delete, ast.Nonlocal, ast.Match, ast.With, ast.Try, ast.Expr,
    ast.FunctionDef, ast.ClassDef, ast.ImportFrom,
)


def files():
    for path in sorted(PACKAGE.glob("*.py")):
        yield path.name, path.read_text(encoding="ascii")


def trees():
    for name, text in files():
        yield name, ast.parse(text)


def is_property(node):
    return any(isinstance(decorator, ast.Name) and decorator.id == "property" for decorator in node.decorator_list)


def docstrings(tree):
    """The nodes of the docstrings, by identity."""
    owners = (ast.Module, ast.FunctionDef, ast.ClassDef)
    return [node.body[0].value for node in ast.walk(tree)
            if isinstance(node, owners) and ast.get_docstring(node) is not None]


class TestLanguage(unittest.TestCase):
    def test_the_folder_holds_plain_files_only(self):
        names = [path.name for path in PACKAGE.iterdir() if path.name != "__pycache__"]
        for name in names:
            self.assertRegex(name, r"^(__init__|[a-z][a-z0-9_]*)\.py$")
        self.assertIn("__init__.py", names)

    def test_sizes_and_characters(self):
        for name, text in files():
            lines = text.split("\n")
            self.assertLessEqual(len(lines), 399, name)
            for number, line in enumerate(lines, start=1):
                self.assertLessEqual(len(line), 120, (name, number))
                self.assertTrue(all(" " <= sign <= "~" for sign in line), (name, number))

    def test_functions_have_at_most_40_lines(self):
        for name, tree in trees():
            for node in ast.walk(tree):
                if isinstance(node, ast.FunctionDef):
                    self.assertLessEqual(node.end_lineno - node.lineno + 1, 40, (name, node.name))

    def test_statements(self):
        for name, tree in trees():
            for node in ast.walk(tree):
                if isinstance(node, ast.stmt):
                    self.assertIsInstance(node, STATEMENTS, (name, node.lineno))

    def test_imports(self):
        for name, tree in trees():
            for node in ast.walk(tree):
                if isinstance(node, ast.ImportFrom):
                    self.assertIn(node, tree.body)
                    self.assertEqual((node.level, [alias.name for alias in node.names if alias.name == "*"]), (0, []))
                    if node.module not in LIBRARY:
                        self.assertRegex(node.module, r"^heldcalls\.[a-z]+$")
                        source = (PACKAGE / f"{node.module.split('.')[1]}.py").read_text()
                        for alias in node.names:
                            self.assertRegex(source, rf"(?m)^(def |class |){alias.name}\b", (name, alias.name))

    def test_decorators(self):
        for name, tree in trees():
            for node in ast.walk(tree):
                for decorator in getattr(node, "decorator_list", []):
                    self.assertRegex(ast.unparse(decorator), DECORATORS, (name, node.name))

    def test_builtins(self):
        for name, tree in trees():
            for node in ast.walk(tree):
                if isinstance(node, ast.Name) and hasattr(builtins, node.id):
                    self.assertIn(node.id, BUILTINS, (name, node.lineno))
                    self.assertIsInstance(node.ctx, ast.Load, (name, node.lineno))
                if isinstance(node, ast.arg):
                    self.assertFalse(hasattr(builtins, node.arg), (name, node.lineno))

    def test_names(self):
        for name, tree in trees():
            for node in ast.walk(tree):
                words = [getattr(node, field, None) for field in ("id", "attr", "arg")]
                if isinstance(node, (ast.FunctionDef, ast.ClassDef)):
                    words.append(node.name)
                for word in words:
                    if isinstance(word, str):
                        allowed = word.strip("_") in DOUBLE if word.startswith("__") else True
                        self.assertTrue(allowed, (name, node.lineno, word))

    def test_strings(self):
        for name, tree in trees():
            told = docstrings(tree)
            for node in ast.walk(tree):
                if isinstance(node, ast.Constant) and isinstance(node.value, str) and node not in told:
                    self.assertNotIn("%", node.value, (name, node.lineno))
                self.assertFalse(isinstance(node, ast.Constant) and isinstance(node.value, float), name)

    def test_words_that_are_not_used(self):
        for name, tree in trees():
            for node in ast.walk(tree):
                if isinstance(node, (ast.FunctionDef, ast.ClassDef)):
                    self.assertNotRegex(node.name, rf"^{WORDS.pattern}$", (name, node.lineno))
                if isinstance(node, (ast.Name, ast.Attribute)):
                    word = node.id if isinstance(node, ast.Name) else node.attr
                    self.assertNotRegex(word, rf"^{WORDS.pattern}$", (name, node.lineno))

    def test_properties_share_their_names_with_no_method_and_no_attribute(self):
        properties, methods, attributes = set(), set(), set()
        for _, tree in trees():
            for owner in ast.walk(tree):
                for node in owner.body if isinstance(owner, ast.ClassDef) else []:
                    if isinstance(node, ast.FunctionDef):
                        (properties if is_property(node) else methods).add(node.name)
                if isinstance(owner, ast.Attribute) and isinstance(owner.ctx, ast.Store):
                    attributes.add(owner.attr)
        self.assertIn("locks", properties)
        self.assertEqual((properties & methods, properties & attributes), (set(), set()))

    def test_methods_of_builtin_values(self):
        own = {node.name for _, tree in trees() for node in ast.walk(tree) if isinstance(node, ast.FunctionDef)}
        for name, tree in trees():
            for node in ast.walk(tree):
                if isinstance(node, ast.Call) and isinstance(node.func, ast.Attribute):
                    self.assertIn(node.func.attr, BUILTIN_METHODS | own, (name, node.lineno))

    def test_no_generator_expressions_and_no_sum_in_place_in_operators(self):
        for name, tree in trees():
            for node in ast.walk(tree):
                self.assertNotIsInstance(node, ast.GeneratorExp, name)
                if isinstance(node, ast.FunctionDef) and (is_property(node) or node.name.startswith("__")):
                    for inner in ast.walk(node):
                        self.assertNotIsInstance(inner, ast.AugAssign, (name, node.name))

    def test_generators_share_their_names_with_nothing(self):
        generators, others = [], []
        for _, tree in trees():
            for node in ast.walk(tree):
                if isinstance(node, ast.FunctionDef):
                    yields = any(isinstance(inner, (ast.Yield, ast.YieldFrom)) for inner in ast.walk(node))
                    (generators if yields else others).append(node.name)
                if isinstance(node, ast.arg):
                    others.append(node.arg)
                if isinstance(node, ast.Name) and isinstance(node.ctx, ast.Store):
                    others.append(node.id)
        self.assertEqual(len(generators), len(set(generators)))
        self.assertEqual(set(generators) & {*others, *BUILTIN_METHODS}, set())

    def test_one_binding_for_each_name_of_a_file(self):
        for name, tree in trees():
            bound = []
            for node in tree.body:
                if isinstance(node, (ast.FunctionDef, ast.ClassDef)):
                    bound.append(node.name)
                elif isinstance(node, ast.ImportFrom):
                    bound += [alias.asname or alias.name for alias in node.names]
                elif isinstance(node, ast.Assign):
                    bound += [target.id for target in node.targets]
            self.assertEqual(len(bound), len(set(bound)), name)
            values = [node.targets[0].id for node in tree.body if isinstance(node, ast.Assign)]
            for node in ast.walk(tree):
                word = node.arg if isinstance(node, ast.arg) else None
                if isinstance(node, ast.Name) and isinstance(node.ctx, ast.Store):
                    word = node.id
                self.assertFalse(word in bound and word not in values, (name, word))

    def test_no_two_files_import_from_each_other(self):
        wanted = {name: {node.module.split(".")[1] + ".py" for node in tree.body
                         if isinstance(node, ast.ImportFrom) and node.module.startswith("heldcalls.")}
                  for name, tree in trees()}
        while wanted:
            free = [name for name in wanted if not wanted[name] & set(wanted)]
            self.assertNotEqual(free, [], wanted)
            for name in free:
                del wanted[name]
