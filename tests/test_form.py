"""The package keeps to the part of Python that it is written in, and uses no clock, chance or files."""

import ast
import builtins
import re
import unittest
from pathlib import Path

PACKAGE = Path(__file__).resolve().parent.parent / "kindleweb"
NODES = """Module Expr Constant ImportFrom alias FunctionDef arguments arg ClassDef Return Assign AugAssign If While For
Break Continue Pass Raise Try ExceptHandler Call Attribute Subscript Slice Name Load Store List Tuple Dict ListComp
comprehension JoinedStr FormattedValue Lambda IfExp BoolOp And Or UnaryOp Not USub Invert BinOp Add Sub Mult FloorDiv Mod
Pow BitAnd BitOr BitXor LShift RShift Compare Eq NotEq Lt LtE Gt GtE Is IsNot In NotIn""".split()
NAMES = """len range enumerate zip min max sum abs sorted reversed int str bool list tuple dict set frozenset isinstance ord
repr any all divmod Exception ValueError TypeError KeyError IndexError LookupError ZeroDivisionError ArithmeticError
OverflowError RuntimeError NotImplementedError""".split()
WORDS = """type typing typing_extensions enum Enum IntEnum StrEnum Flag IntFlag Generic Protocol ABC ABCMeta namedtuple
NamedTuple TypedDict TYPE_CHECKING abstractmethod""".split()
METHODS = """append clear copy count endswith extend find get index insert isalnum isalpha isdigit islower isspace isupper
items join keys ljust lower lstrip partition pop remove replace reverse rfind rjust rpartition rsplit rstrip setdefault
split splitlines startswith strip update upper values zfill bit_length add discard""".split()
OF_PYTHON = set(dir(str) + dir(int) + dir(list) + dir(dict) + dir(set) + dir(bytes))


def sources():
    return [(path.name, path.read_text(encoding="utf-8")) for path in sorted(PACKAGE.glob("*.py"))]


class Form(unittest.TestCase):
    def walked(self):
        for name, text in sources():
            for node in ast.walk(ast.parse(text)):
                yield f"{name}:{getattr(node, 'lineno', 0)}", node

    def test_only_python_files(self):
        for path in PACKAGE.iterdir():
            if path.name != "__pycache__":
                self.assertRegex(path.name, r"^[a-z0-9_]+\.py$")

    def test_signs_and_sizes(self):
        for name, text in sources():
            rows = text.split("\n")
            self.assertLessEqual(len(rows), 400, name)
            self.assertRegex(text, r"^[ -~\n]*$", name)
            self.assertLessEqual(max(len(row) for row in rows), 120, name)

    def test_functions_are_small(self):
        for place, node in self.walked():
            if isinstance(node, ast.FunctionDef):
                self.assertLessEqual(node.end_lineno - node.lineno + 1, 40, place)

    def test_words_that_stand_nowhere(self):
        for name, text in sources():
            self.assertEqual([word for word in WORDS if re.search(rf"\b{word}\b", text)], [], name)

    def test_only_plain_parts_of_the_language(self):
        for place, node in self.walked():
            self.assertIn(type(node).__name__, NODES, place)
            if isinstance(node, ast.Constant):
                self.assertIn(type(node.value), (int, str, bool, type(None)), place)
            if isinstance(node, ast.Assign):
                self.assertEqual(len(node.targets), 1, place)

    def test_only_own_modules_are_drawn_from(self):
        for place, node in self.walked():
            if isinstance(node, ast.ImportFrom):
                self.assertEqual(node.level, 0, place)
                self.assertTrue(node.module.startswith("kindleweb."), place)
                self.assertNotIn("*", [name.name for name in node.names], place)

    def test_names_are_drawn_from_the_file_that_defines_them(self):
        defined = {}
        drawn = {}
        for name, text in sources():
            body = ast.parse(text).body
            module = "kindleweb." + name[:-3]
            defined[module] = [node.name for node in body if isinstance(node, (ast.FunctionDef, ast.ClassDef))]
            defined[module] += [node.targets[0].id for node in body if isinstance(node, ast.Assign)]
            drawn[module] = [node for node in body if isinstance(node, ast.ImportFrom)]
        for module, nodes in drawn.items():
            for node in nodes:
                for part in node.names:
                    self.assertIn(part.name, defined[node.module], module)
                    self.assertIsNone(part.asname, module)
        # Files that draw from none that is left are taken away, until there is none; a ring would stay.
        left = {module: {node.module for node in nodes} for module, nodes in drawn.items()}
        while left:
            ends = [module for module in left if not left[module].intersection(left)]
            self.assertTrue(ends, left)
            left = {module: left[module] for module in left if module not in ends}

    def test_every_name_that_is_drawn_is_used(self):
        for name, text in sources():
            tree = ast.parse(text)
            used = {node.id for node in ast.walk(tree) if isinstance(node, ast.Name)}
            for node in tree.body:
                if isinstance(node, ast.ImportFrom):
                    self.assertEqual([part.name for part in node.names if part.name not in used], [], name)

    def test_no_name_is_a_method_and_a_value(self):
        methods = {part.name for place, node in self.walked() if isinstance(node, ast.ClassDef) for part in node.body
                   if isinstance(part, ast.FunctionDef)}
        values = {node.attr for place, node in self.walked()
                  if isinstance(node, ast.Attribute) and isinstance(node.ctx, ast.Store)}
        self.assertEqual(methods.intersection(values), set())

    def test_names_of_python(self):
        for place, node in self.walked():
            if isinstance(node, ast.Name):
                self.assertNotRegex(node.id, "^_", place)
                if hasattr(builtins, node.id):
                    self.assertIn(node.id, NAMES, place)
                    self.assertIsInstance(node.ctx, ast.Load, place)
            if isinstance(node, ast.arg):
                self.assertFalse(hasattr(builtins, node.arg), place)

    def test_locals_are_called_unlike_what_stands_at_the_top(self):
        for name, text in sources():
            tree = ast.parse(text)
            top = [part.name for node in tree.body if isinstance(node, ast.ImportFrom) for part in node.names]
            top += [node.name for node in tree.body if isinstance(node, (ast.ClassDef, ast.FunctionDef))]
            self.assertEqual(len(top), len(set(top)), name)
            for node in ast.walk(tree):
                given = node.arg if isinstance(node, ast.arg) else None
                if isinstance(node, ast.Name) and isinstance(node.ctx, ast.Store):
                    given = node.id
                self.assertNotIn(given, top, f"{name}:{getattr(node, 'lineno', 0)}")

    def test_walked_at_once(self):
        for place, node in self.walked():
            if isinstance(node, ast.Assign) and isinstance(node.value, ast.Call):
                called = node.value.func
                self.assertNotIn(getattr(called, "id", getattr(called, "attr", None)),
                                 ("zip", "enumerate", "reversed", "range", "items", "keys", "values", "set"), place)
            if isinstance(node, ast.Call) and isinstance(node.func, ast.Name):
                for part in node.args:
                    if isinstance(part, ast.Call) and isinstance(part.func, ast.Name) \
                            and part.func.id in ("zip", "enumerate", "reversed", "range"):
                        self.assertIn(node.func.id, ("list", "tuple", "dict", "sorted", "sum", "any", "all",
                                                     "enumerate", "zip", "min", "max"), place)

    def test_methods_of_python(self):
        for place, node in self.walked():
            if isinstance(node, ast.Attribute) and node.attr in OF_PYTHON:
                self.assertIn(node.attr, METHODS + ["__init__"], place)


if __name__ == "__main__":
    unittest.main()
