"""Whether the package's files keep to the part of Python that is allowed, as far as a walk through them can tell."""

import ast
import builtins
import pathlib
import re
import unittest

PACKAGE = pathlib.Path(__file__).resolve().parent.parent / "slopesteps"
NODES = """
    Module Expr FunctionDef arguments arg Return Assign AugAssign If While For Break Continue Pass ImportFrom alias
    Name Load Store Constant Tuple List Dict BinOp UnaryOp BoolOp Compare Call Attribute Subscript Slice IfExp ListComp
    comprehension Lambda Add Sub Mult FloorDiv Mod USub Not And Or Eq NotEq Lt LtE Gt GtE In NotIn Is IsNot keyword
""".split()
BUILT_IN = """
    len range enumerate zip min max sum abs sorted reversed int str bool list tuple dict set isinstance ord repr any all
    divmod
""".split()
METHODS = """
    append clear copy count endswith extend find get index insert isalnum isalpha isdigit islower isspace isupper items
    join keys ljust lower lstrip partition pop remove replace reverse rfind rjust rpartition rsplit rstrip setdefault
    split splitlines startswith strip update upper values zfill bit_length
""".split()
WORDS = """
    type typing typing_extensions enum Enum IntEnum StrEnum Flag IntFlag Generic Protocol ABC ABCMeta namedtuple
    NamedTuple TypedDict TYPE_CHECKING abstractmethod
""".split()
NOT_NAMES = "register mro elements open input version_info id dir vars type help exit quit os gc sys eval exec".split()
WALKED = ("zip", "enumerate", "reversed", "range", "items", "keys", "values")
CHANGING = ("append", "extend", "insert", "pop", "remove", "reverse", "clear", "update", "setdefault")
WALKERS = ("list", "tuple", "dict", "sorted", "sum", "any", "all", "enumerate", "zip", "min", "max")


def files():
    return sorted(PACKAGE.glob("*.py"))


def trees():
    return [(path, ast.parse(path.read_text())) for path in files()]


def called(node):
    if isinstance(node, ast.Call):
        if isinstance(node.func, ast.Name):
            return node.func.id
        if isinstance(node.func, ast.Attribute):
            return node.func.attr
    return None


class Files(unittest.TestCase):
    def test_only_plain_files_lie_in_the_package(self):
        for path in PACKAGE.rglob("*"):
            if "__pycache__" not in path.parts:
                self.assertRegex(path.name, r"^([a-z][a-z0-9_]*|__init__|__main__)\.py$")
                self.assertNotIn(path.stem, dir(builtins) + WORDS + ["test", "tests", "testing", "site", "conftest"])
        self.assertTrue((PACKAGE / "__init__.py").is_file())

    def test_signs_and_sizes(self):
        for path in files():
            text = path.read_bytes()
            self.assertTrue(all(byte == 10 or 32 <= byte <= 126 for byte in text), path)
            rows = text.decode("ascii").split("\n")
            self.assertLessEqual(len(rows), 401, path)
            self.assertLessEqual(max(len(row) for row in rows), 120, path)

    def test_words_that_stand_nowhere(self):
        for path in files():
            text = path.read_text()
            for word in re.findall("[A-Za-z_0-9]+", text):
                self.assertNotIn(word, WORDS, path)
            for word in ("dataclass", "overload", "contextmanager"):
                self.assertNotIn(word, text)


class Code(unittest.TestCase):
    def test_kinds_of_statements_and_values(self):
        for path, tree in trees():
            for node in ast.walk(tree):
                self.assertIn(node.__class__.__name__, NODES, (path, getattr(node, "lineno", 0)))
                if isinstance(node, ast.Assign):
                    self.assertEqual(len(node.targets), 1)
                    self.assertNotIsInstance(node.targets[0], (ast.Tuple, ast.List))
                if isinstance(node, (ast.For, ast.While)):
                    self.assertEqual(node.orelse, [])
                if isinstance(node, ast.ListComp):
                    self.assertEqual(len(node.generators), 1)
                    self.assertLessEqual(len(node.generators[0].ifs), 1)
                if isinstance(node, ast.Constant):
                    self.assertIn(node.value.__class__.__name__, ("int", "str", "bool", "NoneType"))
                if isinstance(node, ast.Compare) and isinstance(node.ops[0], (ast.Is, ast.IsNot)):
                    self.assertIn(node.comparators[0].value, (None, True, False))

    def test_functions(self):
        for path, tree in trees():
            for node in ast.walk(tree):
                if isinstance(node, ast.FunctionDef):
                    self.assertLessEqual(node.end_lineno - node.lineno + 1, 40, (path, node.name))
                    self.assertEqual(node.decorator_list, [])
                    self.assertIsNone(node.args.vararg or node.args.kwarg or node.returns)
                    self.assertEqual(node.args.kwonlyargs + node.args.posonlyargs, [])

    def test_the_top_of_a_file(self):
        for path, tree in trees():
            bound = []
            for place, node in enumerate(tree.body):
                if isinstance(node, ast.Expr):
                    self.assertTrue(place == 0 and isinstance(node.value.value, str), path)
                elif isinstance(node, ast.ImportFrom):
                    self.assertEqual(node.level, 0)
                    self.assertTrue(node.module.startswith("slopesteps."), path)
                    source = ast.parse((PACKAGE / (node.module.split(".")[1] + ".py")).read_text())
                    own = [row.name for row in source.body if isinstance(row, ast.FunctionDef)]
                    for name in node.names:
                        self.assertIsNone(name.asname)
                        self.assertIn(name.name, own)
                        bound.append(name.name)
                elif isinstance(node, ast.Assign):
                    ast.literal_eval(node.value)
                    bound.append(node.targets[0].id)
                else:
                    self.assertIsInstance(node, ast.FunctionDef)
                    bound.append(node.name)
            self.assertEqual(len(bound), len(set(bound)), path)

    def test_no_two_files_draw_from_one_another(self):
        drawn = {}
        for path, tree in trees():
            found = [node.module.split(".")[1] for node in tree.body if isinstance(node, ast.ImportFrom)]
            drawn[path.stem] = set(found)
        while drawn:
            free = [name for name in drawn if not drawn[name]]
            self.assertTrue(free, drawn)
            drawn = {name: drawn[name] - set(free) for name in drawn if name not in free}

    def test_names(self):
        for path, tree in trees():
            drawn = [node for node in tree.body if isinstance(node, ast.ImportFrom)]
            top = [name.name for node in drawn for name in node.names]
            top += [node.name for node in tree.body if isinstance(node, ast.FunctionDef)]
            for node in ast.walk(tree):
                if isinstance(node, ast.Name) and isinstance(node.ctx, ast.Load) and node.id in dir(builtins):
                    self.assertIn(node.id, BUILT_IN, path)
                stored = None
                if isinstance(node, ast.Name) and isinstance(node.ctx, ast.Store):
                    stored = node.id
                if isinstance(node, ast.arg):
                    stored = node.arg
                    self.assertIsNone(node.annotation)
                if stored is not None:
                    self.assertRegex(stored, "^[A-Za-z][A-Za-z0-9_]*$")
                    self.assertNotIn(stored, dir(builtins) + NOT_NAMES + top, path)
                if isinstance(node, ast.Attribute):
                    self.assertIn(node.attr, METHODS, path)
                if isinstance(node, ast.FunctionDef):
                    self.assertNotIn(node.name, dir(builtins) + NOT_NAMES)

    def test_walked_on_the_spot(self):
        for path, tree in trees():
            allowed = []
            for node in ast.walk(tree):
                if isinstance(node, (ast.For, ast.comprehension)):
                    allowed.append(node.iter)
                if called(node) in WALKERS:
                    allowed.extend(node.args)
            for node in ast.walk(tree):
                if called(node) in WALKED:
                    self.assertTrue(any(node is other for other in allowed), (path, node.lineno))

    def test_nothing_walked_is_changed(self):
        for path, tree in trees():
            for loop in ast.walk(tree):
                if isinstance(loop, ast.For):
                    names = {node.id for node in ast.walk(loop.iter) if isinstance(node, ast.Name)}
                    for node in [inner for row in loop.body for inner in ast.walk(row)]:
                        if isinstance(node, ast.Subscript) and isinstance(node.ctx, ast.Store):
                            self.assertNotIn(getattr(node.value, "id", None), names, (path, node.lineno))
                        if called(node) in CHANGING:
                            self.assertNotIn(getattr(node.func.value, "id", None), names, (path, node.lineno))


if __name__ == "__main__":
    unittest.main()
