"""What can be seen at once of the rules for the form of the code (../shared/LANGUAGE.md)."""

import ast
import builtins
import pathlib
import unittest

FOLDER = pathlib.Path(__file__).resolve().parent.parent / "rulesquares"
FILES = sorted(FOLDER.glob("*.py"))
LIBRARY = {
    "heapq": {"heappush", "heappop", "heapify", "heapreplace", "heappushpop"},
    "math": {"gcd", "lcm", "isqrt", "comb", "perm", "factorial"},
    "itertools": {
        "product", "combinations", "permutations", "chain", "accumulate", "pairwise", "islice", "zip_longest"},
    "collections": {"defaultdict", "deque"},
}
BUILTINS = set(
    "len range enumerate zip min max sum abs sorted reversed int str bool bytes list tuple dict set isinstance ord"
    " repr any all divmod pow getattr hasattr setattr iter next map property staticmethod classmethod super type"
    " Exception ValueError TypeError KeyError IndexError LookupError ZeroDivisionError ArithmeticError OverflowError"
    " RuntimeError NotImplementedError AttributeError StopIteration NotImplemented".split())
BARRED = set("mro elements open input law version_info with_traceback add_note".split())
DOUBLE = set(
    "__init__ __eq__ __len__ __call__ __contains__ __and__ __or__ __invert__ __add__ __sub__ __mul__".split())
EXCLUDED = (ast.AsyncFunctionDef, ast.AsyncFor, ast.AsyncWith, ast.Await, ast.Div, ast.MatMult)


def trees():
    return [(path.name, ast.parse(path.read_text())) for path in FILES]


def nodes(kind):
    return [(name, node) for name, tree in trees() for node in ast.walk(tree) if isinstance(node, kind)]


class Form(unittest.TestCase):
    def test_the_folder_holds_python_files_alone(self):
        found = [path for path in FOLDER.rglob("*") if "__pycache__" not in path.parts]
        self.assertEqual(sorted(found), FILES)
        self.assertIn(FOLDER / "__init__.py", FILES)
        for path in FILES:
            self.assertRegex(path.name, r"^(__init__|[a-z][a-z0-9_]*)\.py$")

    def test_sizes_and_characters(self):
        for path in FILES:
            text = path.read_text()
            self.assertRegex(text, r"\A[ -~\n]*\Z", path.name)
            self.assertLessEqual(len(text.splitlines()), 399, path.name)
            for line in text.splitlines():
                self.assertLessEqual(len(line), 120, line)
        for name, node in nodes(ast.FunctionDef):
            self.assertLessEqual(node.end_lineno - node.lineno + 1, 40, (name, node.name))

    def test_imports(self):
        self.assertEqual(nodes(ast.Import), [])
        names = {path.stem for path in FILES}
        for name, node in nodes(ast.ImportFrom):
            self.assertEqual(node.level, 0, name)
            told = {alias.name for alias in node.names}
            if node.module in LIBRARY:
                self.assertLessEqual(told, LIBRARY[node.module], name)
            else:
                self.assertTrue(node.module.startswith("rulesquares."), name)
                self.assertIn(node.module.partition(".")[2], names, name)
            self.assertEqual([alias.asname for alias in node.names], [None] * len(told), name)

    def test_no_two_files_import_from_each_other(self):
        needs = {path.stem: set() for path in FILES}
        for name, node in nodes(ast.ImportFrom):
            if node.module.startswith("rulesquares."):
                needs[name[:-3]].add(node.module.partition(".")[2])
        while needs:
            free = {name for name in needs if not needs[name] & set(needs)}
            self.assertTrue(free, needs)
            needs = {name: needs[name] for name in needs if name not in free}

    def test_names(self):
        for path in FILES:
            self.assertNotRegex(path.read_text(), "_wall|_WallAttr", path.name)
        for name, node in nodes((ast.Name, ast.Attribute, ast.FunctionDef, ast.ClassDef, ast.arg, ast.keyword)):
            told = [getattr(node, field, None) for field in ("id", "attr", "name", "arg")]
            self.assertEqual([word for word in told if word in BARRED], [], name)
        for name, node in nodes(ast.Name):
            # A doctest that ran earlier leaves its last answer among the builtins, as `_`.
            if node.id in dir(builtins) and node.id != "_":
                self.assertIn(node.id, BUILTINS, name)
                self.assertIsInstance(node.ctx, ast.Load, (name, node.id))
            self.assertFalse(node.id == "_" and isinstance(node.ctx, ast.Load), name)
        for name, node in nodes((ast.FunctionDef, ast.ClassDef, ast.arg)):
            self.assertNotIn(getattr(node, "name", getattr(node, "arg", None)), BUILTINS, name)

    def test_no_statement_or_value_that_is_left_out(self):
        for name, node in nodes(EXCLUDED):
            self.fail((name, node.lineno, node))
        for name, node in nodes(ast.Constant):
            self.assertNotIsInstance(node.value, (float, complex), (name, node.lineno))
            self.assertFalse(isinstance(node.value, str) and "%" in node.value, (name, node.lineno))
        for name, node in nodes(ast.BinOp):
            if isinstance(node.op, ast.Pow):
                self.assertIsInstance(node.right, ast.Constant, (name, node.lineno))

    def test_decorators_and_double_underscore_methods(self):
        for name, node in nodes(ast.FunctionDef):
            told = [ast.unparse(decorator) for decorator in node.decorator_list]
            self.assertIn(told, ([], ["property"]), (name, node.name))
            if node.name.startswith("__"):
                self.assertIn(node.name, DOUBLE, (name, node.name))
        for name, node in nodes(ast.ClassDef):
            for method in node.body:
                if getattr(method, "name", None) == "__eq__":
                    self.assertTrue(
                        ast.unparse(method.body[0]).startswith(f"return isinstance(other, {node.name}) and "), name)

    def test_errors_that_are_caught_and_raised(self):
        own = {node.name for name, node in nodes(ast.ClassDef) if name == "errors.py"}
        for name, node in nodes(ast.ExceptHandler):
            kinds = node.type.elts if isinstance(node.type, ast.Tuple) else [node.type]
            self.assertLessEqual({ast.unparse(kind) for kind in kinds}, own, (name, node.lineno))
        for name, node in nodes(ast.Raise):
            self.assertIsInstance(node.exc, ast.Call, (name, node.lineno))
            self.assertIn(ast.unparse(node.exc.func), own, (name, node.lineno))

    def test_is_and_generators(self):
        for name, node in nodes(ast.Compare):
            for operator, side in zip(node.ops, node.comparators):
                if isinstance(operator, (ast.Is, ast.IsNot)):
                    self.assertEqual(ast.unparse(side), "None", (name, node.lineno))
        for name, node in nodes((ast.GeneratorExp, ast.Yield, ast.YieldFrom, ast.Global, ast.Lambda)):
            self.fail((name, node.lineno, node))
