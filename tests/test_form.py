"""The part of Python that the package keeps to, as far as its rows and its tree tell it."""

import ast
import builtins
import keyword
import pathlib
import re
import unittest

PACKAGE = pathlib.Path(__file__).resolve().parent.parent / "rootfield"
FILES = sorted(one for one in PACKAGE.rglob("*") if "__pycache__" not in one.parts)
TREES = {one.stem: ast.parse(one.read_text(encoding="utf-8")) for one in FILES if one.suffix == ".py"}

STATEMENTS = (
    ast.FunctionDef, ast.ClassDef, ast.ImportFrom, ast.Assign, ast.AugAssign, ast.If, ast.While, ast.For,
    ast.Return, ast.Break, ast.Continue, ast.Pass, ast.Raise, ast.Try, ast.Expr,
)
EXPRESSIONS = (
    ast.Constant, ast.Name, ast.List, ast.Tuple, ast.Dict, ast.BinOp, ast.UnaryOp, ast.BoolOp, ast.Compare,
    ast.IfExp, ast.Call, ast.Attribute, ast.Subscript, ast.Slice, ast.ListComp, ast.JoinedStr,
    ast.FormattedValue, ast.Lambda,
)
BUILT_IN = set("""
len range enumerate zip min max sum abs sorted reversed int str bool list tuple dict set frozenset isinstance
ord repr any all divmod Exception ValueError TypeError KeyError IndexError LookupError ZeroDivisionError
ArithmeticError OverflowError RuntimeError NotImplementedError StopIteration
""".split())
METHODS = set("""
append clear copy count endswith extend find get index insert isalnum isalpha isdigit islower isspace isupper
items join keys ljust lower lstrip partition pop remove replace reverse rfind rjust rpartition rsplit rstrip
setdefault split splitlines startswith strip update upper values zfill bit_length
""".split())
WORDS_OUT = re.compile(
    r"\b(type|typing|typing_extensions|enum|Enum|IntEnum|StrEnum|Flag|IntFlag|Generic|Protocol|ABC|ABCMeta"
    r"|namedtuple|NamedTuple|TypedDict|TYPE_CHECKING|abstractmethod)\b|dataclass|overload|contextmanager")
WALKED = ("zip", "enumerate", "reversed", "range", "items", "keys", "values")
WALKERS = ("list", "tuple", "dict", "sorted", "sum", "any", "all", "enumerate", "zip", "min", "max")


def nodes(kind):
    return [(name, one) for name, tree in TREES.items() for one in ast.walk(tree) if isinstance(one, kind)]


def called(node):
    """The name that is called, if the node is a call of a name or of a method."""
    if not isinstance(node, ast.Call):
        return None
    return getattr(node.func, "id", None) or getattr(node.func, "attr", None)


def is_plain(node, functions):
    """A plain value of a module's top: lists, tuples and dicts hold no list or dict."""
    if isinstance(node, (ast.List, ast.Tuple)):
        parts = node.elts
    elif isinstance(node, ast.Dict):
        parts = node.keys + node.values
    else:
        return isinstance(node, ast.Constant) or isinstance(node, ast.Name) and node.id in functions
    return all(not isinstance(one, (ast.List, ast.Dict)) and is_plain(one, functions) for one in parts)


class Files(unittest.TestCase):
    def test_names_and_signs(self):
        self.assertIn(PACKAGE / "__init__.py", FILES)
        for one in FILES:
            self.assertRegex(one.name, r"^(__init__|[a-z][a-z0-9_]*)\.py$")
            self.assertNotIn(one.stem, dir(builtins))
            self.assertNotRegex(one.stem, r"^(tests?|testing|test_.*|site|conftest|format|property)$")
            self.assertRegex(one.read_bytes(), rb"^[ -~\n]*$")

    def test_sizes(self):
        for one in FILES:
            rows = one.read_text().split("\n")
            self.assertLessEqual(len(rows), 399, one)
            self.assertLessEqual(max(map(len, rows)), 120, one)
        for name, one in nodes(ast.FunctionDef):
            self.assertLessEqual(one.end_lineno - one.lineno + 1, 40, one.name)

    def test_words(self):
        for one in FILES:
            self.assertIsNone(WORDS_OUT.search(one.read_text()), one)


class Tops(unittest.TestCase):
    def test_what_stands_there(self):
        for name, tree in TREES.items():
            self.assertIsNotNone(ast.get_docstring(tree), name)
            functions, bound = [], []
            for one in tree.body[1:]:
                if isinstance(one, (ast.FunctionDef, ast.ClassDef)):
                    functions.append(one.name)
                    bound.append(one.name)
                elif isinstance(one, ast.Assign):
                    self.assertTrue(is_plain(one.value, functions), ast.dump(one))
                    bound.append(one.targets[0].id)
                else:
                    self.assertIsInstance(one, ast.ImportFrom)
                    bound += [alias.name for alias in one.names]
            self.assertEqual(len(bound), len(set(bound)), name)

    def test_imports(self):
        drawn = {}
        for name, one in nodes(ast.ImportFrom):
            package, dot, module = one.module.partition(".")
            self.assertEqual((package, dot, one.level), ("rootfield", ".", 0))
            there = [part.name for part in TREES[module].body if isinstance(part, (ast.FunctionDef, ast.ClassDef))]
            for alias in one.names:
                self.assertIn(alias.name, there)
                self.assertIsNone(alias.asname)
            drawn.setdefault(name, set()).add(module)
        for start in drawn:
            reached = set(drawn[start])
            for step in TREES:
                reached |= {further for one in reached for further in drawn.get(one, ())}
            self.assertNotIn(start, reached)

    def test_the_interface(self):
        places = [(name, one.name) for name, one in nodes(ast.FunctionDef) if one.name == "answers"]
        self.assertEqual(places, [("field", "answers")])


class Code(unittest.TestCase):
    def test_statements_and_expressions(self):
        for name, one in nodes((ast.stmt, ast.expr)):
            self.assertIsInstance(one, STATEMENTS + EXPRESSIONS, f"{name}:{one.lineno}")
        for name, one in nodes((ast.For, ast.While)):
            self.assertEqual(one.orelse, [], f"{name}:{one.lineno}")
        for name, one in nodes(ast.Assign):
            self.assertEqual(len(one.targets), 1, f"{name}:{one.lineno}")
        for name, one in nodes(ast.ListComp):
            self.assertEqual(len(one.generators), 1, f"{name}:{one.lineno}")
            self.assertLessEqual(len(one.generators[0].ifs), 1, f"{name}:{one.lineno}")
        for name, one in nodes(ast.Call):
            self.assertFalse([part for part in one.args if isinstance(part, ast.Starred)])

    def test_values(self):
        for name, one in nodes(ast.Constant):
            self.assertIn(type(one.value), (int, str, bool, type(None)), f"{name}:{one.lineno}")
            if isinstance(one.value, str):
                self.assertNotIn("%", one.value)
        for name, one in nodes(ast.BinOp):
            self.assertNotIsInstance(one.op, (ast.Div, ast.MatMult), f"{name}:{one.lineno}")
            if isinstance(one.op, ast.Pow):
                self.assertIsInstance(one.right, ast.Constant, f"{name}:{one.lineno}")
        for name, one in nodes(ast.Compare):
            if any(isinstance(op, (ast.Is, ast.IsNot)) for op in one.ops):
                self.assertIsInstance(one.comparators[0], ast.Constant)

    def test_functions_and_classes(self):
        for name, one in nodes((ast.FunctionDef, ast.Lambda)):
            plain = one.args
            self.assertFalse(plain.posonlyargs or plain.vararg or plain.kwonlyargs or plain.kwarg)
            self.assertTrue(all(isinstance(part, ast.Constant) for part in plain.defaults))
        for name, one in nodes((ast.FunctionDef, ast.ClassDef)):
            self.assertEqual(one.decorator_list, [])
        for name, one in nodes(ast.ClassDef):
            self.assertIn(one, TREES[name].body)
            for part in one.body[1:]:
                self.assertIsInstance(part, ast.FunctionDef)

    def test_names(self):
        for name, tree in TREES.items():
            above = {one.name for one in tree.body if isinstance(one, (ast.FunctionDef, ast.ClassDef))}
            above |= {alias.name for one in tree.body if isinstance(one, ast.ImportFrom) for alias in one.names}
            top = {one.targets[0].id for one in tree.body if isinstance(one, ast.Assign)}
            local = {one.id for one in ast.walk(tree) if isinstance(one, ast.Name) and isinstance(one.ctx, ast.Store)}
            local |= {one.arg for one in ast.walk(tree) if isinstance(one, ast.arg)}
            for one in local:
                self.assertRegex(one, r"^[A-Za-z][A-Za-z0-9_]*$")
                self.assertNotIn(one, above | set(dir(builtins)) | set(keyword.kwlist))
            for one in above:
                self.assertNotIn(one, dir(builtins))
            read = {one.id for one in ast.walk(tree) if isinstance(one, ast.Name)}
            self.assertEqual(read - above - top - local - BUILT_IN, set(), name)

    def test_methods(self):
        own = {one.name for name, one in nodes(ast.FunctionDef)}
        for name, one in nodes(ast.Call):
            if isinstance(one.func, ast.Attribute):
                self.assertIn(one.func.attr, METHODS | own, f"{name}:{one.lineno}")

    def test_walked_at_once(self):
        fine = set()
        for name, one in nodes((ast.For, ast.comprehension)):
            fine.add(one.iter)
        for name, one in nodes(ast.Call):
            if called(one) in WALKERS:
                fine.update(one.args[:1])
        for name, one in nodes(ast.Call):
            if called(one) in WALKED:
                self.assertIn(one, fine, f"{name}:{one.lineno}")


if __name__ == "__main__":
    unittest.main()
