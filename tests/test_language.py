"""The package keeps to the rules of LANGUAGE.md, as far as its text shows it."""

import ast
import builtins
import re
import unittest
from pathlib import Path

PACKAGE = Path(__file__).resolve().parent.parent / "wordscales"

STATEMENTS = (
    ast.FunctionDef, ast.ClassDef, ast.ImportFrom, ast.Assign, ast.AugAssign, ast.If, ast.While, ast.For, ast.Return,
    ast.Break, ast.Continue, ast.Pass, ast.Raise, ast.Try, ast.Expr,
)
EXPRESSIONS = (
    ast.Constant, ast.List, ast.Tuple, ast.Dict, ast.BinOp, ast.UnaryOp, ast.Compare, ast.BoolOp, ast.IfExp, ast.Call,
    ast.Attribute, ast.Subscript, ast.Slice, ast.ListComp, ast.JoinedStr, ast.FormattedValue, ast.Name, ast.Lambda,
)
BUILT_IN = (
    "len range enumerate zip min max sum abs sorted reversed int str bool list tuple dict set isinstance ord repr any "
    "all divmod ValueError KeyError IndexError LookupError ZeroDivisionError"
).split()
METHODS = (
    "append clear copy count endswith extend find get index insert isalnum isalpha isdigit islower isspace isupper "
    "items join keys ljust lower lstrip partition pop remove replace reverse rfind rjust rpartition rsplit rstrip "
    "setdefault split splitlines startswith strip update upper values zfill bit_length"
).split()
WORDS_OUT = re.compile(
    r"\b(type|typing|typing_extensions|enum|Enum|IntEnum|StrEnum|Flag|IntFlag|Generic|Protocol|ABC|ABCMeta|namedtuple"
    r"|NamedTuple|TypedDict|TYPE_CHECKING|abstractmethod)\b|dataclass|overload|contextmanager"
)
NAMES_OUT = "register mro elements open input version_info with_traceback add_note".split()
KEYWORDS = {
    "sorted": ("key", "reverse"), "min": ("key", "default"), "max": ("key", "default"), "sum": ("start",),
    "enumerate": ("start",), "zip": ("strict",),
}
TAKEN_ERRORS = "KeyError ZeroDivisionError StopIteration ValueError LookupError IndexError".split()
WALKED = "zip enumerate reversed range".split()
WALKED_METHODS = "items keys values".split()
WALKERS = "list tuple dict sorted sum any all enumerate zip min max".split()
CHANGES = "append clear extend insert pop remove reverse setdefault update".split()
OF_PYTHONS_VALUES = {name for kind in (str, int, list, tuple, dict, set, bytes) for name in dir(kind)}
PLAIN_NAME = re.compile(r"[A-Za-z][A-Za-z0-9_]*\Z")


def package_files():
    return sorted(path for path in PACKAGE.rglob("*") if "__pycache__" not in path.parts)


def trees():
    return [(path.name, ast.parse(path.read_text(encoding="utf-8"))) for path in package_files()]


def nodes(kind):
    return [(name, node) for name, tree in trees() for node in ast.walk(tree) if isinstance(node, kind)]


def top_names(tree):
    names = []
    for node in tree.body:
        if isinstance(node, (ast.FunctionDef, ast.ClassDef)):
            names.append(node.name)
        elif isinstance(node, ast.ImportFrom):
            names.extend(alias.name for alias in node.names)
        elif isinstance(node, ast.Assign):
            names.extend(target.id for target in node.targets)
    return names


def local_names(tree):
    stored = [node.id for node in ast.walk(tree) if isinstance(node, ast.Name) and isinstance(node.ctx, ast.Store)]
    return stored + [node.arg for node in ast.walk(tree) if isinstance(node, ast.arg)]


class Language(unittest.TestCase):
    def test_files(self):
        for path in package_files():
            self.assertRegex(path.name, r"\A([a-z][a-z0-9_]*|__init__)\.py\Z")

    def test_signs_and_lengths(self):
        for path in package_files():
            text = path.read_text(encoding="utf-8")
            self.assertRegex(text, r"\A[ -~\n]*\Z", path.name)
            rows = text.split("\n")
            self.assertLessEqual(len(rows), 400, path.name)
            self.assertLessEqual(max(len(row) for row in rows), 120, path.name)
            self.assertIsNone(WORDS_OUT.search(text), path.name)

    def test_function_lengths(self):
        for name, node in nodes(ast.FunctionDef):
            self.assertLessEqual(node.end_lineno - node.lineno + 1, 40, f"{name}: {node.name}")

    def test_statements_and_expressions(self):
        for name, node in nodes((ast.stmt, ast.expr)):
            allowed = STATEMENTS if isinstance(node, ast.stmt) else EXPRESSIONS
            self.assertIsInstance(node, allowed, f"{name}: line {node.lineno}")

    def test_statement_forms(self):
        for name, node in nodes(ast.Assign):
            self.assertEqual(len(node.targets), 1)
            self.assertNotIsInstance(node.targets[0], (ast.Tuple, ast.List), f"{name}: line {node.lineno}")
        for name, node in nodes((ast.For, ast.While)):
            self.assertEqual(node.orelse, [])
        for name, node in nodes(ast.Try):
            self.assertEqual(node.finalbody, [])
        for name, node in nodes(ast.Expr):
            docstring = isinstance(node.value, ast.Constant) and node.lineno == 1
            self.assertTrue(docstring or isinstance(node.value, ast.Call), f"{name}: line {node.lineno}")

    def test_expression_forms(self):
        for name, node in nodes(ast.BinOp):
            self.assertNotIsInstance(node.op, (ast.Div, ast.MatMult, ast.Pow), f"{name}: line {node.lineno}")
        for name, node in nodes(ast.Constant):
            self.assertIn(type(node.value), (int, str, bool, type(None)))
            self.assertNotIn("%", str(node.value))
        for name, node in nodes(ast.ListComp):
            self.assertEqual(len(node.generators), 1)
            self.assertLessEqual(len(node.generators[0].ifs), 1)
        for name, node in nodes(ast.FormattedValue):
            self.assertIsInstance(node.value, ast.Name)
            self.assertIsNone(node.format_spec)
        for name, node in nodes(ast.Compare):
            if any(isinstance(op, (ast.Is, ast.IsNot)) for op in node.ops):
                self.assertIsInstance(node.comparators[0], ast.Constant)

    def test_functions_and_classes(self):
        for name, node in nodes(ast.FunctionDef):
            self.assertEqual(node.decorator_list, [])
            plain = node.args
            self.assertFalse(plain.vararg or plain.kwarg or plain.kwonlyargs or plain.posonlyargs, node.name)
        for name, node in nodes(ast.ClassDef):
            self.assertEqual(node.decorator_list, [])
            self.assertLessEqual(len(node.bases), 1)
            for part in node.body:
                self.assertIsInstance(part, (ast.FunctionDef, ast.Pass))

    def test_tops(self):
        for name, tree in trees():
            names = top_names(tree)
            self.assertEqual(len(names), len(set(names)), name)
            self.assertIsNotNone(ast.get_docstring(tree), name)
            for node in tree.body[1:]:
                self.assertIsInstance(node, (ast.FunctionDef, ast.ClassDef, ast.ImportFrom, ast.Assign), name)

    def test_imports(self):
        defined = {name[:-3]: top_names(tree) for name, tree in trees()}
        drawn = {name[:-3]: [] for name, tree in trees()}
        self.assertEqual(defined["__init__"], [])
        for name, node in nodes(ast.ImportFrom):
            self.assertEqual(node.level, 0)
            package, module = node.module.split(".")
            self.assertEqual(package, "wordscales")
            drawn[name[:-3]].append(module)
            source = dict(trees())[f"{module}.py"]
            own = [part for part in source.body if not isinstance(part, ast.ImportFrom)]
            for alias in node.names:
                self.assertIsNone(alias.asname)
                self.assertIn(alias.name, top_names(ast.Module(body=own, type_ignores=[])), name)
        while drawn:
            free = [name for name in drawn if not any(module in drawn for module in drawn[name])]
            self.assertTrue(free, f"drawn in a circle: {sorted(drawn)}")
            for name in free:
                drawn.pop(name)

    def test_names(self):
        for name, tree in trees():
            tops = top_names(tree)
            taken = [node.name for node in tree.body if isinstance(node, ast.ClassDef)]
            taken.extend(alias.name for node in tree.body if isinstance(node, ast.ImportFrom) for alias in node.names)
            locals_here = local_names(tree)
            for local in locals_here + tops:
                self.assertRegex(local, PLAIN_NAME)
                self.assertFalse(hasattr(builtins, local), f"{name}: {local}")
                self.assertNotIn(local, NAMES_OUT)
            for local in locals_here:
                self.assertNotIn(local, taken, name)
            for node in ast.walk(tree):
                if isinstance(node, ast.Name) and isinstance(node.ctx, ast.Load):
                    known = node.id in tops or node.id in locals_here or node.id in BUILT_IN
                    self.assertTrue(known, f"{name}: {node.id}")

    def test_methods(self):
        own = [node.name for name, node in nodes(ast.FunctionDef)]
        for name, node in nodes(ast.Call):
            if isinstance(node.func, ast.Attribute):
                self.assertIn(node.func.attr, METHODS + own, f"{name}: line {node.lineno}")

    def test_tops_hold_plain_values(self):
        for name, tree in trees():
            for node in tree.body:
                if isinstance(node, ast.Assign):
                    self.assertIsInstance(ast.literal_eval(node.value), (int, str, tuple), name)

    def test_values_and_methods_of_objects(self):
        methods = []
        for name, node in nodes(ast.ClassDef):
            own = [part.name for part in node.body if isinstance(part, ast.FunctionDef)]
            self.assertEqual(len(own), len(set(own)), f"{name}: {node.name}")
            methods.extend(method for method in own if method != "__init__")
        values = [node.attr for name, node in nodes(ast.Attribute) if isinstance(node.ctx, ast.Store)]
        for used in methods + values:
            self.assertRegex(used, PLAIN_NAME)
            self.assertNotIn(used, OF_PYTHONS_VALUES)
        self.assertEqual([value for value in values if value in methods], [])
        for name, node in nodes(ast.Attribute):
            self.assertIn(node.attr, METHODS + methods + values, f"{name}: line {node.lineno}")

    def test_keywords(self):
        own = [node.name for name, node in nodes((ast.FunctionDef, ast.ClassDef))]
        for name, node in nodes(ast.Call):
            called = node.func.id if isinstance(node.func, ast.Name) else node.func.attr
            for keyword in node.keywords:
                self.assertTrue(called in own or keyword.arg in KEYWORDS.get(called, ()), f"{name}: line {node.lineno}")

    def test_errors_raised_and_taken_by_name(self):
        own = [node.name for name, node in nodes(ast.ClassDef) if name == "errors.py"]
        for name, node in nodes(ast.Raise):
            self.assertIsInstance(node.exc, ast.Call, f"{name}: line {node.lineno}")
            self.assertIn(node.exc.func.id, own)
        for name, node in nodes(ast.ExceptHandler):
            self.assertIn(node.type.id, own + TAKEN_ERRORS, f"{name}: line {node.lineno}")

    def test_walked_at_once(self):
        for name, tree in trees():
            allowed = []
            for node in ast.walk(tree):
                if isinstance(node, (ast.For, ast.comprehension)):
                    allowed.append(node.iter)
                elif isinstance(node, ast.Call) and isinstance(node.func, ast.Name) and node.func.id in WALKERS:
                    allowed.extend(node.args[:1])
                elif isinstance(node, ast.Call) and isinstance(node.func, ast.Attribute) and node.func.attr == "join":
                    self.assertIsInstance(node.func.value, ast.Constant)
                    allowed.extend(node.args)
            for node in ast.walk(tree):
                if isinstance(node, ast.Call):
                    by_name = isinstance(node.func, ast.Name) and node.func.id in WALKED
                    by_method = isinstance(node.func, ast.Attribute) and node.func.attr in WALKED_METHODS
                    if by_name or by_method:
                        self.assertIn(node, allowed, f"{name}: line {node.lineno}")
                    self.assertFalse(isinstance(node.func, ast.Name) and node.func.id in ("set", "frozenset"), name)

    def test_what_a_loop_walks_stays(self):
        for name, loop in nodes(ast.For):
            walked = [ast.unparse(part) for part in ast.walk(loop.iter) if isinstance(part, (ast.Name, ast.Attribute))]
            for part in [inner for row in loop.body for inner in ast.walk(row)]:
                if isinstance(part, ast.Call) and isinstance(part.func, ast.Attribute) and part.func.attr in CHANGES:
                    self.assertNotIn(ast.unparse(part.func.value), walked, f"{name}: line {part.lineno}")
                if isinstance(part, ast.Subscript) and isinstance(part.ctx, ast.Store):
                    self.assertNotIn(ast.unparse(part.value), walked, f"{name}: line {part.lineno}")


if __name__ == "__main__":
    unittest.main()
