"""The rules of the language that can be read off the files; each check names its rule."""

import ast
import builtins
import re
import unittest
import warnings
from pathlib import Path

FOLDER = Path(__file__).parent.parent / "trickfares"
PATHS = sorted(path for path in FOLDER.rglob("*") if "__pycache__" not in path.parts)
SOURCES = {path.name: path.read_text(encoding="utf-8") for path in PATHS}
TREES = {name: ast.parse(text) for name, text in SOURCES.items()}

BUILTINS = set("""len range enumerate zip min max sum abs sorted reversed int str bool bytes list tuple dict set frozenset
    isinstance ord repr any all divmod pow getattr hasattr setattr iter next map type super property staticmethod
    classmethod Exception ValueError TypeError KeyError IndexError LookupError ZeroDivisionError ArithmeticError
    OverflowError RuntimeError NotImplementedError AttributeError StopIteration NotImplemented""".split())
METHODS = set("""append clear copy count endswith extend find get index insert isalnum isalpha isdigit islower isspace
    isupper items join keys ljust lower lstrip partition pop remove replace reverse rfind rjust rpartition rsplit rstrip
    setdefault split splitlines startswith strip update upper values zfill bit_length sort""".split())
SPECIAL = set("__init__ __eq__ __repr__ __str__ __len__".split())
BARRED = set("""mro elements open input law version_info with_traceback add_note register attrgetter breakpoint builtins
    compile copyright credits delattr dir eval exec exit gc getattr globals hasattr help id importlib license locals
    methodcaller os quit setattr super type vars sys""".split())
# What may be imported from Python's own library; these names are only called.
LIBRARY = {"math": ("gcd",)}
NOT_ALLOWED = (ast.AsyncFor, ast.AsyncFunctionDef, ast.AsyncWith, ast.Await)
# Behind these a list stands in place of a generator expression, as a class of the package has __eq__.
WITH_LISTS = ("any", "all", "min", "max", "sum", "sorted")


def nodes(kind):
    return [(name, node) for name, tree in TREES.items() for node in ast.walk(tree) if isinstance(node, kind)]


def bound_names(tree):
    """The names of functions, classes, parameters, variables and imports of a file."""
    for node in ast.walk(tree):
        if isinstance(node, (ast.FunctionDef, ast.ClassDef)):
            yield node.name
        elif isinstance(node, ast.arg):
            yield node.arg
        elif isinstance(node, ast.Name) and isinstance(node.ctx, ast.Store):
            yield node.id
        elif isinstance(node, ast.alias):
            yield node.asname or node.name
        elif isinstance(node, ast.ExceptHandler) and node.name:
            yield node.name


class FileTest(unittest.TestCase):
    def test_plain_files_only(self):
        for path in PATHS:
            self.assertTrue(path.is_file() and re.fullmatch(r"[a-z0-9_]+\.py", path.name), "L1, L14: %s" % path)
        self.assertIn("__init__.py", SOURCES)

    def test_sizes(self):
        for name, text in SOURCES.items():
            lines = text.split("\n")
            self.assertLessEqual(len(lines), 399, "L10: " + name)
            for at, line in enumerate(lines):
                self.assertLessEqual(len(line), 120, "L10: %s:%d" % (name, at + 1))
            self.assertEqual(re.findall(r"[^ -~\n]", text), [], "L14: " + name)
        for name, node in nodes(ast.FunctionDef):
            self.assertLessEqual(node.end_lineno - node.lineno + 1, 40, "L10: %s %s" % (name, node.name))

    def test_imports(self):
        self.assertEqual(nodes(ast.Import), [], "L16")
        known = {}
        for name, node in nodes(ast.ImportFrom):
            self.assertIn(node, TREES[name].body, "L2")
            if node.module in LIBRARY:
                for alias in node.names:
                    self.assertTrue(alias.name in LIBRARY[node.module] and alias.asname is None, "L2: " + name)
                continue
            self.assertTrue(node.level == 0 and node.module.startswith("trickfares."), "L2: " + name)
            source = node.module.split(".")[1] + ".py"
            known.setdefault(name, set()).add(source)
            for alias in node.names:
                defined = [each.name for each in TREES[source].body if isinstance(each, (ast.FunctionDef, ast.ClassDef))]
                defined += [each.targets[0].id for each in TREES[source].body if isinstance(each, ast.Assign)]
                self.assertIn(alias.name, defined, "L16: " + name)
        for name in known:
            behind = set()
            waiting = [name]
            while waiting:
                more = known.get(waiting.pop(), set()) - behind
                behind |= more
                waiting.extend(more)
            self.assertNotIn(name, behind, "L16")

    def test_the_library_is_only_called(self):
        allowed = [each for told in LIBRARY.values() for each in told]
        called = [id(node.func) for _, node in nodes(ast.Call) if not node.keywords]
        for name, node in nodes(ast.Name):
            if node.id in allowed:
                self.assertIn(id(node), called, "L2: %s:%d" % (name, node.lineno))

    def test_lambdas_of_one_line(self):
        lines = [(name, node.lineno) for name, node in nodes(ast.Lambda)]
        self.assertEqual(len(lines), len(set(lines)), "L13")

    def test_module_level(self):
        for name, tree in TREES.items():
            for node in tree.body:
                if isinstance(node, ast.Expr):
                    self.assertIsInstance(node.value, ast.Constant, "L3: " + name)
                    continue
                self.assertIsInstance(node, (ast.ImportFrom, ast.FunctionDef, ast.ClassDef, ast.Assign), "L3: " + name)
                if isinstance(node, ast.Assign):
                    ast.literal_eval(node.value)
                    self.assertEqual([type(target) for target in node.targets], [ast.Name], "L3: " + name)


class StatementTest(unittest.TestCase):
    def test_statements(self):
        for kind in NOT_ALLOWED:
            self.assertEqual(nodes(kind), [], "L6")
        for name, node in nodes((ast.BinOp, ast.AugAssign)):
            self.assertNotIsInstance(node.op, (ast.Div, ast.MatMult), "L7: %s:%d" % (name, node.lineno))

    def test_python_gives_no_warning(self):
        with warnings.catch_warnings():
            warnings.simplefilter("error")
            for name, text in SOURCES.items():
                compile(text, name, "exec")

    def test_values(self):
        for name, node in nodes(ast.Constant):
            self.assertNotIsInstance(node.value, (float, complex), "L7: " + name)
            if isinstance(node.value, str):
                self.assertFalse(node.value.startswith("__") and node.value.endswith("__"), "L27: " + name)
                self.assertNotIn("%", node.value, "L27: " + name)
        for name, text in SOURCES.items():
            self.assertEqual(re.findall(r"\\[^nt\\\"']", text), [], "L27: " + name)

    def test_generator_expressions(self):
        for name, node in nodes(ast.Call):
            if isinstance(node.func, ast.Name) and node.func.id in WITH_LISTS:
                self.assertFalse([each for each in node.args if isinstance(each, ast.GeneratorExp)], "L7: " + name)

    def test_decorators(self):
        for name, node in nodes((ast.FunctionDef, ast.ClassDef)):
            for each in node.decorator_list:
                self.assertIsInstance(node, ast.FunctionDef, "L5: " + name)
                told = each.attr if isinstance(each, ast.Attribute) else each.id
                self.assertIn(told, ("property", "setter", "staticmethod", "classmethod"), "L5: " + name)

    def test_classes_stand_at_module_level(self):
        for name, node in nodes(ast.ClassDef):
            self.assertIn(node, TREES[name].body, "L15: " + name)

    def test_what_is_raised(self):
        for name, node in nodes(ast.Raise):
            if node.exc is not None:
                self.assertIsInstance(node.exc, ast.Call, "L19: " + name)
                self.assertIsInstance(node.exc.func, ast.Name, "L19: " + name)

    def test_what_is_caught(self):
        for name, node in nodes(ast.ExceptHandler):
            self.assertIsInstance(node.type, (ast.Name, ast.Tuple), "L6, L19: " + name)

    def test_is(self):
        for name, node in nodes(ast.Compare):
            for operator, right in zip(node.ops, node.comparators):
                if isinstance(operator, (ast.Is, ast.IsNot)):
                    of_types = isinstance(node.left, ast.Call) and node.left.func.id == "type"
                    of_none = isinstance(right, ast.Constant) and right.value in (None, True, False)
                    self.assertTrue(of_types or of_none, "L20: %s:%d" % (name, node.lineno))


class NameTest(unittest.TestCase):
    def test_names(self):
        builtin_names = set(dir(builtins))
        for name, tree in TREES.items():
            for bound in bound_names(tree):
                if bound in SPECIAL:
                    continue
                self.assertTrue(bound == "_" or re.fullmatch(r"_?[A-Za-z][A-Za-z0-9_]*", bound), "L12: " + bound)
                self.assertNotIn(bound, builtin_names, "L8, L15: " + name)
                self.assertNotIn(bound, BARRED, "L17: " + name)

    def test_only_known_builtins_are_used(self):
        for name, tree in TREES.items():
            known = set(bound_names(tree)) | BUILTINS
            used = {node.id for node in ast.walk(tree) if isinstance(node, ast.Name)}
            self.assertEqual(used - known, set(), "L8: " + name)

    def test_locals_are_not_named_like_classes_and_imports(self):
        for name, tree in TREES.items():
            taken = {each.name for each in tree.body if isinstance(each, ast.ClassDef)}
            taken |= {alias.name for each in tree.body if isinstance(each, ast.ImportFrom) for alias in each.names}
            for node in ast.walk(tree):
                if isinstance(node, ast.FunctionDef):
                    inner = set(bound_names(ast.Module([node], []))) - {node.name}
                    self.assertEqual(inner & taken, set(), "L15: " + name)

    def test_attributes_are_assigned_in_the_package(self):
        assigned = {node.attr for _, node in nodes(ast.Attribute) if isinstance(node.ctx, ast.Store)}
        methods = {node.name for _, node in nodes(ast.FunctionDef)}
        self.assertEqual(assigned & methods, set(), "L18")
        self.assertEqual(assigned & METHODS, set(), "L26")
        for name, node in nodes(ast.Attribute):
            self.assertIn(node.attr, assigned | methods | METHODS, "L18, L25: " + name)
            if isinstance(node.ctx, ast.Store):
                self.assertIsInstance(node.value, ast.Name, "L18: " + name)

    def test_double_underscores(self):
        for name, tree in TREES.items():
            for node in tree.body:
                if isinstance(node, ast.FunctionDef):
                    self.assertFalse(node.name.startswith("__"), "L28: " + name)
        for name, node in nodes(ast.ClassDef):
            for method in node.body:
                if isinstance(method, ast.FunctionDef) and method.name.startswith("__"):
                    self.assertIn(method.name, SPECIAL, "L5: " + name)


if __name__ == "__main__":
    unittest.main()
