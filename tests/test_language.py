"""The package keeps to its small part of Python. Rules that a walk through the code can see are checked here."""
import ast
import builtins
import re
import unittest
from pathlib import Path

PACKAGE = Path(__file__).resolve().parent.parent / "ruledroots"

BUILT_IN = set(
    "len range enumerate zip min max sum abs sorted reversed int str bool list tuple dict set frozenset isinstance"
    " ord repr any all divmod Exception ValueError TypeError KeyError IndexError LookupError ZeroDivisionError"
    " ArithmeticError OverflowError RuntimeError NotImplementedError AttributeError StopIteration".split())

METHODS = set(
    "append clear copy count endswith extend find get index insert isalnum isalpha isdigit islower isspace isupper"
    " items join keys ljust lower lstrip partition pop remove replace reverse rfind rjust rpartition rsplit rstrip"
    " setdefault split splitlines startswith strip update upper values zfill bit_length".split())

UNUSED = set(
    "register mro elements open input version_info with_traceback add_note attrgetter breakpoint builtins compile"
    " copyright credits delattr dir eval exec exit gc getattr globals hasattr help id importlib license locals"
    " methodcaller os quit setattr super type vars sys __name__".split())

WORDS = re.compile(
    r"\b(type|typing|typing_extensions|enum|Enum|IntEnum|StrEnum|Flag|IntFlag|Generic|Protocol|ABC|ABCMeta|namedtuple"
    r"|NamedTuple|TypedDict|TYPE_CHECKING|abstractmethod)\b|dataclass|overload|contextmanager")

STATEMENTS = (
    ast.Assign, ast.AugAssign, ast.If, ast.While, ast.For, ast.Return, ast.Break, ast.Continue, ast.Pass, ast.Raise,
    ast.Try, ast.Expr, ast.FunctionDef, ast.ClassDef, ast.ImportFrom)

EXPRESSIONS = (
    ast.Constant, ast.List, ast.Tuple, ast.Dict, ast.BinOp, ast.UnaryOp, ast.Compare, ast.BoolOp, ast.IfExp, ast.Call,
    ast.Attribute, ast.Subscript, ast.Slice, ast.ListComp, ast.JoinedStr, ast.FormattedValue, ast.Name, ast.Lambda)

OPERATORS = (
    ast.Add, ast.Sub, ast.Mult, ast.FloorDiv, ast.Mod, ast.Pow, ast.LShift, ast.RShift, ast.BitAnd, ast.BitOr,
    ast.BitXor)

PYTHONS_OWN = [name for name in dir(builtins) if not name.startswith("__")]

SPECIAL = ("__init__", "__eq__", "__repr__", "__str__", "__len__")


def bound_names(tree):
    """Each name that a file binds, with its place: parameters, locals, functions, classes, imports, values."""
    for node in ast.walk(tree):
        if isinstance(node, ast.Name) and not isinstance(node.ctx, ast.Load):
            yield node.id
        if isinstance(node, ast.arg):
            yield node.arg
        if isinstance(node, (ast.FunctionDef, ast.ClassDef)):
            yield node.name
        if isinstance(node, ast.alias):
            yield node.asname or node.name
        if isinstance(node, ast.ExceptHandler) and node.name:
            yield node.name


def drawn_from(tree):
    return [node.module for node in tree.body if isinstance(node, ast.ImportFrom)]


class Language(unittest.TestCase):
    def setUp(self):
        self.files = sorted(path for path in PACKAGE.rglob("*") if "__pycache__" not in path.parts)
        self.texts = {path: path.read_text(encoding="utf-8") for path in self.files}
        self.trees = {path: ast.parse(text) for path, text in self.texts.items()}

    def each_node(self, *kinds):
        for path, tree in self.trees.items():
            for node in ast.walk(tree):
                if isinstance(node, kinds):
                    yield f"{path.name}:{getattr(node, 'lineno', 0)}", node

    def test_files(self):
        self.assertIn(PACKAGE / "__init__.py", self.files)
        self.assertIn(PACKAGE / "rows.py", self.files)
        for path in self.files:
            self.assertRegex(path.name, r"^[a-z_][a-z0-9_]*\.py$")
            self.assertNotIn(path.stem, PYTHONS_OWN)
            self.assertNotRegex(path.stem, r"^(tests?|testing|test_.*|site|conftest|sitecustomize|usercustomize)$")

    def test_signs_and_sizes(self):
        for path, text in self.texts.items():
            self.assertRegex(text, r"\A[ -~\n]*\Z", path)
            lines = text.split("\n")
            self.assertLessEqual(len(lines) - 1, 400, path)
            self.assertLessEqual(max(len(line) for line in lines), 120, path)
            self.assertIsNone(WORDS.search(text), path)
        for where, node in self.each_node(ast.FunctionDef):
            self.assertLessEqual(node.end_lineno - node.lineno + 1, 40, where)

    def test_statements(self):
        for where, node in self.each_node(ast.stmt):
            self.assertIsInstance(node, STATEMENTS, where)
            if isinstance(node, (ast.While, ast.For)):
                self.assertEqual(node.orelse, [], where)
            if isinstance(node, ast.Try):
                self.assertEqual(node.finalbody, [], where)
            if isinstance(node, ast.Assign):
                self.assertEqual(len(node.targets), 1, where)
                self.assertNotIsInstance(node.targets[0], (ast.Tuple, ast.List), where)

    def test_calls_stand_by_themselves_and_nothing_else(self):
        for path, tree in self.trees.items():
            docstring = tree.body[0]
            for node in ast.walk(tree):
                if isinstance(node, ast.Expr) and node is not docstring:
                    self.assertIsInstance(node.value, ast.Call, f"{path.name}:{node.lineno}")

    def test_top_of_a_file(self):
        for path, tree in self.trees.items():
            self.assertIsInstance(tree.body[0].value.value, str, path)
            names = []
            for node in tree.body[1:]:
                self.assertIsInstance(node, (ast.ImportFrom, ast.FunctionDef, ast.ClassDef, ast.Assign), path)
                if isinstance(node, ast.Assign):
                    self.assertIsInstance(node.value, ast.Constant, f"{path.name}:{node.lineno}")
                    names.append(node.targets[0].id)
                elif isinstance(node, ast.ImportFrom):
                    names += [alias.name for alias in node.names]
                else:
                    names.append(node.name)
            self.assertEqual(len(names), len(set(names)), path)

    def test_imports(self):
        draws = {f"ruledroots.{path.stem}": drawn_from(tree) for path, tree in self.trees.items()}
        self.assertEqual(draws["ruledroots.__init__"], [])
        for where, node in self.each_node(ast.ImportFrom):
            self.assertEqual(node.level, 0, where)
            self.assertIn(node.module, draws, where)
            path = PACKAGE / (node.module.split(".")[1] + ".py")
            defined = [name for top in self.trees[path].body if not isinstance(top, ast.ImportFrom)
                       for name in bound_names(top)]
            for alias in node.names:
                self.assertIsNone(alias.asname, where)
                self.assertIn(alias.name, defined, where)
        settled = []
        while len(settled) < len(draws):
            ready = [name for name in draws if name not in settled and set(draws[name]) <= set(settled)]
            self.assertNotEqual(ready, [], "files that draw from one another")
            settled += ready

    def test_expressions(self):
        for where, node in self.each_node(ast.expr):
            self.assertIsInstance(node, EXPRESSIONS, where)
            if isinstance(node, ast.BinOp):
                self.assertIsInstance(node.op, OPERATORS, where)
            if isinstance(node, ast.BinOp) and isinstance(node.op, ast.Pow):
                self.assertIn(getattr(node.right, "value", None), range(65), where)
            if isinstance(node, ast.Constant):
                self.assertIn(type(node.value), (int, str, bool, type(None)), where)
            if isinstance(node, ast.ListComp):
                self.assertEqual(len(node.generators), 1, where)
                self.assertLessEqual(len(node.generators[0].ifs), 1, where)
            if isinstance(node, ast.Compare):
                for op, right in zip(node.ops, node.comparators):
                    if isinstance(op, (ast.Is, ast.IsNot)):
                        self.assertIsInstance(getattr(right, "value", 0), (bool, type(None)), where)

    def test_functions(self):
        for where, node in self.each_node(ast.FunctionDef, ast.Lambda):
            args = node.args
            self.assertEqual((args.posonlyargs, args.kwonlyargs, args.vararg, args.kwarg), ([], [], None, None), where)
            self.assertTrue(all(arg.annotation is None for arg in args.args), where)
            if isinstance(node, ast.FunctionDef):
                self.assertEqual((node.decorator_list, node.returns), ([], None), where)

    def test_names(self):
        for path, tree in self.trees.items():
            for name in bound_names(tree):
                self.assertNotIn(name, PYTHONS_OWN, path)
                self.assertNotIn(name, UNUSED, path)
                if name not in SPECIAL:
                    self.assertRegex(name, r"^[A-Za-z][A-Za-z0-9_]*$", path)
            top = {name for node in tree.body if isinstance(node, (ast.ClassDef, ast.ImportFrom))
                   for name in ([node.name] if isinstance(node, ast.ClassDef) else [a.name for a in node.names])}
            inner = [name for node in tree.body if isinstance(node, (ast.FunctionDef, ast.ClassDef))
                     for part in node.body for name in bound_names(part)]
            inner += [arg.arg for node in ast.walk(tree) if isinstance(node, ast.FunctionDef) for arg in node.args.args]
            self.assertEqual(top & set(inner), set(), path)

    def test_built_in_names(self):
        for where, node in self.each_node(ast.Name):
            if node.id in dir(builtins):
                self.assertIn(node.id, BUILT_IN, where)

    def test_methods(self):
        own = {part.name for tree in self.trees.values() for node in tree.body if isinstance(node, ast.ClassDef)
               for part in node.body}
        for where, node in self.each_node(ast.Call):
            if isinstance(node.func, ast.Attribute):
                self.assertIn(node.func.attr, METHODS | own, where)

    def test_classes(self):
        for where, node in self.each_node(ast.ClassDef):
            self.assertEqual((node.decorator_list, node.keywords), ([], []), where)
            self.assertLessEqual(len(node.bases), 1, where)
            for part in node.body:
                self.assertIsInstance(part, ast.FunctionDef, where)

    def test_ranges_are_walked_at_once(self):
        walked = set()
        for _, node in self.each_node(ast.For, ast.comprehension):
            walked.add(id(node.iter))
        for where, node in self.each_node(ast.Call):
            if isinstance(node.func, ast.Name) and node.func.id in ("range", "zip", "enumerate", "reversed"):
                self.assertIn(id(node), walked, where)


if __name__ == "__main__":
    unittest.main()
