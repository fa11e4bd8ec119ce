"""The package keeps to the part of Python that it is held to: what of those rules can be seen in the text."""

import ast
import pathlib
import re
import unittest

PACKAGE = pathlib.Path(__file__).resolve().parent.parent / "hullafloat"
FILES = sorted(PACKAGE.glob("*.py"))

STATEMENTS = (
    ast.FunctionDef, ast.ClassDef, ast.Assign, ast.AugAssign, ast.If, ast.While, ast.For, ast.Return, ast.Break,
    ast.Continue, ast.Pass, ast.Raise, ast.Try, ast.Expr, ast.ImportFrom,
)
EXPRESSIONS = (
    ast.BinOp, ast.UnaryOp, ast.Compare, ast.BoolOp, ast.IfExp, ast.Call, ast.Attribute, ast.Subscript, ast.Slice,
    ast.ListComp, ast.JoinedStr, ast.FormattedValue, ast.Constant, ast.List, ast.Tuple, ast.Dict, ast.Name, ast.Lambda,
)
BUILT_IN = set(
    "len range enumerate zip min max sum abs sorted reversed int str bool list tuple dict set frozenset isinstance "
    "ord repr any all divmod Exception ValueError KeyError IndexError LookupError ZeroDivisionError".split())
METHODS = set(
    "append clear copy count endswith extend find get index insert isalnum isalpha isdigit islower isspace isupper "
    "items join keys ljust lower lstrip partition pop remove replace reverse rfind rjust rpartition rsplit rstrip "
    "setdefault split splitlines startswith strip update upper values zfill bit_length".split())
WORDS = re.compile(
    r"\b(type|typing|typing_extensions|enum|Enum|IntEnum|StrEnum|Flag|IntFlag|Generic|Protocol|ABC|ABCMeta|namedtuple"
    r"|NamedTuple|TypedDict|TYPE_CHECKING|abstractmethod)\b|dataclass|overload|contextmanager")
PLAIN = re.compile(r"[A-Za-z][A-Za-z0-9_]*\Z")
DUNDERS = ("__init__", "__eq__", "__repr__", "__str__", "__len__")
TAKEN = {name for kind in (str, int, list, dict, set, bytes, tuple) for name in dir(kind)}


def trees():
    return [(path.name, ast.parse(path.read_text())) for path in FILES]


def nodes():
    return [(name, node) for name, tree in trees() for node in ast.walk(tree)]


def bound_names(node):
    if isinstance(node, (ast.FunctionDef, ast.ClassDef)):
        return [node.name]
    if isinstance(node, ast.arg):
        return [node.arg]
    if isinstance(node, ast.Name) and isinstance(node.ctx, ast.Store):
        return [node.id]
    return []


class Text(unittest.TestCase):
    def test_only_plain_files(self):
        self.assertIn("desk.py", [path.name for path in FILES])
        for path in PACKAGE.iterdir():
            if path.name != "__pycache__":
                self.assertRegex(path.name, r"^(__init__|[a-z][a-z0-9_]*)\.py$")

    def test_sizes_and_signs(self):
        for path in FILES:
            text = path.read_text()
            self.assertRegex(text, r"\A[ -~\n]*\Z", path.name)
            self.assertLessEqual(len(text.splitlines()), 400)
            self.assertLessEqual(max(len(line) for line in text.splitlines()), 120)
            self.assertIsNone(WORDS.search(text), path.name)

    def test_functions_have_at_most_40_lines(self):
        for name, node in nodes():
            if isinstance(node, ast.FunctionDef):
                self.assertLessEqual(node.end_lineno - node.lineno + 1, 40, f"{name} {node.name}")


class Forms(unittest.TestCase):
    def test_statements_and_expressions(self):
        for name, node in nodes():
            where = f"{name} {getattr(node, 'lineno', '')} {node}"
            if isinstance(node, ast.stmt):
                self.assertIsInstance(node, STATEMENTS, where)
            if isinstance(node, ast.expr):
                self.assertIsInstance(node, EXPRESSIONS, where)
            self.assertNotIsInstance(node, (ast.Div, ast.MatMult), where)
            if isinstance(node, (ast.For, ast.While)):
                self.assertEqual(node.orelse, [], where)
            if isinstance(node, ast.Assign):
                self.assertEqual(len(node.targets), 1, where)
            if isinstance(node, (ast.FunctionDef, ast.ClassDef)):
                self.assertEqual(node.decorator_list, [], where)
            if isinstance(node, ast.BinOp) and isinstance(node.op, ast.Pow):
                self.assertIsInstance(node.right, ast.Constant, where)
                self.assertIn(node.right.value, range(65), where)
            if isinstance(node, ast.Constant):
                self.assertNotIsInstance(node.value, (float, bytes, complex), where)

    def test_imports(self):
        for name, node in nodes():
            if isinstance(node, ast.ImportFrom):
                self.assertEqual(node.level, 0)
                self.assertRegex(node.module, r"^hullafloat\.[a-z]+$")
                self.assertNotIn("*", [alias.name for alias in node.names])
                target = ast.parse((PACKAGE.parent / (node.module.replace(".", "/") + ".py")).read_text())
                defined = [bound for child in ast.walk(target) for bound in bound_names(child)]
                for alias in node.names:
                    self.assertIn(alias.name, defined)

    def test_top_of_a_file(self):
        for name, tree in trees():
            bound = []
            for node in tree.body[1:]:
                self.assertIsInstance(node, (ast.ImportFrom, ast.FunctionDef, ast.ClassDef, ast.Assign), name)
                if isinstance(node, ast.Assign):
                    bound.append(node.targets[0].id)
                    ast.literal_eval(node.value)
                elif not isinstance(node, ast.ImportFrom):
                    bound.append(node.name)
            self.assertEqual(len(bound), len(set(bound)), name)


class Names(unittest.TestCase):
    def test_names_are_plain_and_nobody_elses(self):
        python = set(dir(__builtins__) if not isinstance(__builtins__, dict) else __builtins__)
        for name, node in nodes():
            for bound in bound_names(node):
                if bound not in DUNDERS:
                    self.assertRegex(bound, PLAIN, name)
                    self.assertNotIn(bound, python, name)

    def test_locals_are_not_called_like_classes_or_imports(self):
        for name, tree in trees():
            taken = {node.name for node in tree.body if isinstance(node, ast.ClassDef)}
            for node in tree.body:
                if isinstance(node, ast.ImportFrom):
                    taken.update(alias.name for alias in node.names)
            for node in ast.walk(tree):
                if isinstance(node, (ast.arg, ast.Name)):
                    self.assertEqual(set(bound_names(node)) & taken, set(), name)

    def test_no_two_files_draw_from_one_another(self):
        drawn = {}
        for name, tree in trees():
            modules = [node.module for node in tree.body if isinstance(node, ast.ImportFrom)]
            drawn[name] = {module.replace("hullafloat.", "") + ".py" for module in modules}
        self.assertEqual(drawn["__init__.py"], set())
        while drawn:
            leaves = [name for name in drawn if not drawn[name] & set(drawn)]
            self.assertNotEqual(leaves, [], drawn)
            for name in leaves:
                drawn.pop(name)

    def test_names_that_are_read_are_known(self):
        for name, tree in trees():
            known = set(BUILT_IN)
            for node in ast.walk(tree):
                known.update(bound_names(node))
                if isinstance(node, ast.ImportFrom):
                    known.update(alias.name for alias in node.names)
            for node in ast.walk(tree):
                if isinstance(node, ast.Name):
                    self.assertIn(node.id, known, name)

    def test_methods_and_values_of_objects(self):
        methods = set()
        kept = set()
        for name, node in nodes():
            if isinstance(node, ast.ClassDef):
                methods.update(child.name for child in node.body if isinstance(child, ast.FunctionDef))
            if isinstance(node, ast.Attribute) and isinstance(node.ctx, ast.Store):
                kept.add(node.attr)
        self.assertEqual(methods & kept, set())
        self.assertEqual((methods - set(DUNDERS)) & TAKEN, set())
        self.assertEqual(kept & TAKEN, set())
        for name, node in nodes():
            if isinstance(node, ast.Attribute):
                self.assertIn(node.attr, METHODS | methods | kept, name)


if __name__ == "__main__":
    unittest.main()
