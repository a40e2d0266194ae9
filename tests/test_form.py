"""The form of the package's files, as far as it can be seen by going through them: L1 to L28 of the language."""

import ast
import builtins
import re
import unittest
from pathlib import Path

PACKAGE = Path(__file__).resolve().parent.parent / "madecoins"
FILES = sorted(path for path in PACKAGE.rglob("*") if "__pycache__" not in path.parts)

NODES = """Module Expr FunctionDef ClassDef arguments arg Return Assign AugAssign For While If Pass Break Continue Raise
Try ExceptHandler ImportFrom alias BoolOp And Or BinOp Add Sub Mult FloorDiv Mod Pow BitAnd BitOr BitXor LShift RShift
UnaryOp Not USub UAdd Invert Lambda IfExp List Tuple Dict Set ListComp comprehension Compare Eq NotEq Lt LtE Gt GtE Is
IsNot In NotIn Call keyword JoinedStr FormattedValue Constant Attribute Subscript Slice Name Load Store""".split()

OWN_NAMES = """len range enumerate zip min max sum abs sorted reversed int str bool list tuple dict set frozenset isinstance
ord repr any all divmod Exception ValueError TypeError KeyError IndexError LookupError ZeroDivisionError ArithmeticError
OverflowError RuntimeError NotImplementedError AttributeError StopIteration True False None""".split()

METHODS = """append clear copy count endswith extend find get index insert isalnum isalpha isdigit islower isspace isupper
items join keys ljust lower lstrip partition pop remove replace reverse rfind rjust rpartition rsplit rstrip setdefault
split splitlines startswith strip update upper values zfill bit_length""".split()

WORDS = """type typing typing_extensions enum Enum IntEnum StrEnum Flag IntFlag Generic Protocol ABC ABCMeta namedtuple
NamedTuple TypedDict TYPE_CHECKING abstractmethod""".split()

UNUSED = """register mro elements open input version_info with_traceback add_note attrgetter breakpoint builtins compile
copyright credits delattr dir eval exec exit gc getattr globals hasattr help id importlib license locals methodcaller os
quit setattr super type vars sys __name__""".split()


def trees():
    return [(path, ast.parse(path.read_text())) for path in FILES]


def nodes(kind):
    return [(path, node) for path, tree in trees() for node in ast.walk(tree) if isinstance(node, kind)]


def bound_names():
    """Each name that is bound anywhere, with its file."""
    found = []
    for path, node in nodes((ast.FunctionDef, ast.ClassDef, ast.arg, ast.Name, ast.alias)):
        if isinstance(node, ast.Name):
            if isinstance(node.ctx, ast.Store):
                found.append((path, node.id))
        elif isinstance(node, ast.arg):
            found.append((path, node.arg))
        else:
            found.append((path, node.name))
    return found


class Form(unittest.TestCase):
    def test_files(self):
        self.assertIn(PACKAGE / "__init__.py", FILES)
        for path in FILES:
            self.assertRegex(path.name, r"^(__init__|[a-z][a-z0-9_]*)\.py$")
            self.assertNotIn(path.stem, dir(builtins))

    def test_signs_sizes_and_words(self):
        for path in FILES:
            text = path.read_text()
            self.assertRegex(text, r"\A[ -~\n]*\Z", path)
            self.assertLessEqual(len(text.splitlines()), 400, path)
            self.assertLessEqual(max(len(line) for line in text.splitlines()), 120, path)
            self.assertNotRegex(text, "dataclass|overload|contextmanager")
            self.assertEqual([word for word in re.findall(r"\w+", text) if word in WORDS], [], path)
        for path, node in nodes(ast.FunctionDef):
            self.assertLessEqual(node.end_lineno - node.lineno + 1, 40, node.name)

    def test_statements_and_expressions(self):
        for path, node in nodes(ast.AST):
            self.assertIn(node.__class__.__name__, NODES, (path, getattr(node, "lineno", 0)))
        for path, node in nodes(ast.Constant):
            self.assertIn(node.value.__class__, (int, str, bool, None.__class__), (path, node.lineno))
        for path, node in nodes((ast.For, ast.While, ast.Try)):
            self.assertFalse(getattr(node, "finalbody", None) or (node.orelse and not isinstance(node, ast.Try)))
        for path, node in nodes(ast.Assign):
            self.assertEqual(len(node.targets), 1)
        for path, node in nodes(ast.ListComp):
            self.assertTrue(len(node.generators) == 1 and len(node.generators[0].ifs) <= 1)
        for path, node in nodes(ast.BinOp):
            if isinstance(node.op, ast.Pow):
                self.assertIsInstance(node.right, ast.Constant, (path, node.lineno))
        for path, node in nodes(ast.Compare):
            if any(isinstance(op, (ast.Is, ast.IsNot)) for op in node.ops):
                self.assertIn(node.comparators[0].value, (None, True, False))

    def test_functions_and_classes(self):
        for path, node in nodes(ast.FunctionDef):
            told = node.args
            self.assertFalse(told.vararg or told.kwarg or told.kwonlyargs or told.posonlyargs or node.decorator_list)
            self.assertFalse(node.returns or any(one.annotation for one in told.args))
        for path, node in nodes(ast.ClassDef):
            self.assertFalse(node.decorator_list or node.keywords or len(node.bases) > 1)
            for part in node.body:
                self.assertTrue(isinstance(part, ast.FunctionDef) or isinstance(part.value, ast.Constant))

    def test_the_top_of_each_file(self):
        for path, tree in trees():
            names = []
            for node in tree.body:
                self.assertIsInstance(node, (ast.Expr, ast.ImportFrom, ast.FunctionDef, ast.ClassDef, ast.Assign))
                if isinstance(node, ast.Expr):
                    self.assertIsInstance(node.value, ast.Constant)
                elif isinstance(node, ast.Assign):
                    names.append(node.targets[0].id)
                elif isinstance(node, ast.ImportFrom):
                    names.extend(alias.name for alias in node.names)
                else:
                    names.append(node.name)
            self.assertEqual(len(names), len(set(names)), path)

    def test_imports(self):
        tops = {path.stem: {node.targets[0].id if isinstance(node, ast.Assign) else getattr(node, "name", "")
                            for node in tree.body} for path, tree in trees()}
        draws = {path.stem: set() for path in FILES}
        for path, node in nodes(ast.ImportFrom):
            package, _, name = node.module.partition(".")
            self.assertEqual((package, node.level), ("madecoins", 0))
            for alias in node.names:
                self.assertIsNone(alias.asname)
                self.assertIn(alias.name, tops[name])
            draws[path.stem].add(name)
        while draws:
            free = [name for name in draws if not draws[name] & set(draws)]
            self.assertTrue(free, "files that draw from one another")
            draws = {name: draws[name] for name in draws if name not in free}

    def test_names(self):
        for path, name in bound_names():
            self.assertNotIn(name, UNUSED, path)
            if name != "__init__":
                self.assertRegex(name, r"\A[A-Za-z][A-Za-z0-9_]*\Z", path)
                self.assertNotIn(name, dir(builtins), path)
        for path, tree in trees():
            known = {name for where, name in bound_names() if where == path}
            for node in ast.walk(tree):
                if isinstance(node, ast.Name) and node.id not in known:
                    self.assertIn(node.id, OWN_NAMES, (path, node.lineno))

    def test_locals_are_not_called_like_a_class_or_an_import(self):
        for path, tree in trees():
            taken = {alias.name for node in ast.walk(tree) if isinstance(node, ast.ImportFrom) for alias in node.names}
            taken |= {node.name for node in ast.walk(tree) if isinstance(node, ast.ClassDef)}
            for node in ast.walk(tree):
                if isinstance(node, ast.arg):
                    self.assertNotIn(node.arg, taken, path)
                if isinstance(node, ast.Name) and isinstance(node.ctx, ast.Store):
                    self.assertNotIn(node.id, taken, path)

    def test_methods_and_values(self):
        methods = {part.name for _, node in nodes(ast.ClassDef) for part in node.body if hasattr(part, "name")}
        called = [(path, node.func.attr) for path, node in nodes(ast.Call) if isinstance(node.func, ast.Attribute)]
        for path, name in called:
            self.assertTrue(name in METHODS or name in methods, (path, name))
        values = {node.attr for _, node in nodes(ast.Attribute) if isinstance(node.ctx, ast.Store)}
        self.assertEqual(methods & values, set())
        pythons = {name for kind in (str, int, list, dict, set, bytes) for name in dir(kind)}
        self.assertEqual((methods - {"add", "__init__"}) & pythons - set(METHODS), set())
        self.assertEqual(values & pythons, set())


if __name__ == "__main__":
    unittest.main()
