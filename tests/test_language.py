"""The package keeps to the part of the language that it's written in, as far as a test can see it."""

import ast
import pathlib
import re
import unittest

PACKAGE = pathlib.Path(__file__).resolve().parent.parent / "pagestates"
BUILT_IN = set("""len range enumerate zip min max sum abs sorted reversed int str bool list tuple dict set frozenset
    isinstance ord repr any all divmod Exception ValueError TypeError KeyError IndexError LookupError ZeroDivisionError
    ArithmeticError OverflowError RuntimeError NotImplementedError AttributeError StopIteration""".split())
METHODS = set("""append clear copy count endswith extend find get index insert isalnum isalpha isdigit islower isspace
    isupper items join keys ljust lower lstrip partition pop remove replace reverse rfind rjust rpartition rsplit rstrip
    setdefault split splitlines startswith strip update upper values zfill bit_length add""".split())
NODES = """Module Expr FunctionDef arguments arg ClassDef Assign AugAssign If While For Return Break Continue Pass Raise
    Try ExceptHandler ImportFrom alias Constant Name Attribute Subscript Slice List Tuple Dict Set ListComp comprehension
    BinOp UnaryOp BoolOp Compare IfExp Call keyword JoinedStr FormattedValue Lambda Load Store Add Sub Mult FloorDiv Mod
    Pow LShift RShift BitOr BitAnd BitXor Invert USub UAdd Not And Or Eq NotEq Lt LtE Gt GtE Is IsNot In NotIn""".split()
WORDS_NOWHERE = re.compile(r"\b(type|typing|typing_extensions|enum|Enum|IntEnum|StrEnum|Flag|IntFlag|Generic|Protocol|ABC"
                           r"|ABCMeta|namedtuple|NamedTuple|TypedDict|TYPE_CHECKING|abstractmethod)\b"
                           r"|dataclass|overload|contextmanager")
WALKED_AT_ONCE = {"zip", "enumerate", "reversed", "range"}
MAY_WALK = {"list", "tuple", "dict", "sorted", "sum", "any", "all", "enumerate", "zip", "min", "max"}


def package_files():
    return sorted(PACKAGE.glob("*.py"))


def trees():
    return [(path.name, ast.parse(path.read_text())) for path in package_files()]


def nodes(kind):
    for name, tree in trees():
        for node in ast.walk(tree):
            if isinstance(node, kind):
                yield name, node


def called_name(node):
    return node.func.id if isinstance(node, ast.Call) and isinstance(node.func, ast.Name) else ""


def bound_names(tree):
    names = {}
    for node in ast.walk(tree):
        if isinstance(node, (ast.FunctionDef, ast.ClassDef)):
            names[node.name] = True
        elif isinstance(node, ast.arg):
            names[node.arg] = True
        elif isinstance(node, ast.Name) and isinstance(node.ctx, ast.Store):
            names[node.id] = True
        elif isinstance(node, ast.alias):
            names[node.name] = True
        elif isinstance(node, ast.ExceptHandler) and node.name:
            names[node.name] = True
    return set(names)


class LanguageTest(unittest.TestCase):
    def test_files(self):
        for path in PACKAGE.iterdir():
            if path.name != "__pycache__":
                self.assertRegex(path.name, r"^(__init__|[a-z][a-z0-9_]*)\.py$")

    def test_lines(self):
        for path in package_files():
            text = path.read_text()
            self.assertLessEqual(len(text.splitlines()), 400, path)
            self.assertRegex(text, r"\A[ -~\n]*\Z", path)
            self.assertIsNone(WORDS_NOWHERE.search(text), path)
            for line in text.splitlines():
                self.assertLessEqual(len(line), 120, line)

    def test_length_of_functions(self):
        for name, node in nodes(ast.FunctionDef):
            self.assertLessEqual(node.end_lineno - node.lineno + 1, 40, (name, node.name))
            self.assertEqual(node.decorator_list, [])

    def test_only_these_parts(self):
        for name, node in nodes(ast.AST):
            self.assertIn(node.__class__.__name__, NODES, (name, getattr(node, "lineno", 0)))

    def test_names(self):
        for name, tree in trees():
            bound = bound_names(tree)
            for word in bound:
                self.assertRegex(word, r"^(__init__|[A-Za-z][A-Za-z0-9_]*)$", name)
                self.assertNotIn(word, dir(__builtins__) if not isinstance(__builtins__, dict) else __builtins__, name)
            for node in ast.walk(tree):
                if isinstance(node, ast.Name):
                    self.assertIn(node.id, bound | BUILT_IN, (name, node.lineno))

    def test_methods_and_values(self):
        methods = {part.name for _, node in nodes(ast.ClassDef) for part in node.body if isinstance(part, ast.FunctionDef)}
        values = {node.attr for _, node in nodes(ast.Attribute) if isinstance(node.ctx, ast.Store)}
        self.assertEqual(methods & values, set())
        own = {word for kind in (str, int, list, dict, set, bytes, tuple) for word in dir(kind)}
        self.assertEqual((methods - {"__init__", "add"}) & own, set())
        self.assertEqual(values & own, set())
        for name, node in nodes(ast.Attribute):
            self.assertIn(node.attr, METHODS | methods | values, (name, node.lineno))

    def test_imports(self):
        draws = {}
        for name, tree in trees():
            defined = {path.stem: path for path in package_files()}
            draws[name[:-3]] = []
            for node in ast.walk(tree):
                if isinstance(node, ast.ImportFrom):
                    package, _, module = node.module.partition(".")
                    self.assertEqual((package, node.level), ("pagestates", 0))
                    source = ast.parse(defined[module].read_text())
                    top = {part.name for part in source.body if isinstance(part, (ast.FunctionDef, ast.ClassDef))}
                    top |= {part.targets[0].id for part in source.body if isinstance(part, ast.Assign)}
                    for alias in node.names:
                        self.assertIn(alias.name, top, name)
                        self.assertIsNone(alias.asname)
                    draws[name[:-3]].append(module)
        done = set()
        while len(done) < len(draws):
            ready = {module for module in draws if module not in done and set(draws[module]) <= done}
            self.assertTrue(ready, "files draw from one another")
            done |= ready

    def test_no_local_is_called_like_an_import_or_a_class(self):
        for name, tree in trees():
            taken = {alias.name for part in tree.body if isinstance(part, ast.ImportFrom) for alias in part.names}
            taken |= {part.name for part in tree.body if isinstance(part, ast.ClassDef)}
            for node in ast.walk(tree):
                if isinstance(node, ast.arg):
                    self.assertNotIn(node.arg, taken, (name, node.lineno))
                elif isinstance(node, ast.Name) and isinstance(node.ctx, ast.Store):
                    self.assertNotIn(node.id, taken, (name, node.lineno))

    def test_walked_at_once(self):
        allowed = set()
        for _, node in nodes(ast.AST):
            if isinstance(node, (ast.For, ast.comprehension)):
                allowed.add(ast.dump(node.iter, include_attributes=True))
            elif called_name(node) in MAY_WALK and node.args:
                allowed.add(ast.dump(node.args[0], include_attributes=True))
        for name, node in nodes(ast.Call):
            if called_name(node) in WALKED_AT_ONCE:
                self.assertIn(ast.dump(node, include_attributes=True), allowed, (name, node.lineno))

    def test_small_forms(self):
        for name, node in nodes((ast.Assign, ast.For, ast.While, ast.Compare, ast.Constant)):
            where = (name, node.lineno)
            if isinstance(node, ast.Assign):
                self.assertEqual(len(node.targets), 1, where)
            elif isinstance(node, (ast.For, ast.While)):
                self.assertEqual(node.orelse, [], where)
            elif isinstance(node, ast.Compare):
                self.assertFalse(any(isinstance(op, (ast.Is, ast.IsNot)) for op in node.ops), where)
            else:
                self.assertIsInstance(node.value, (int, str, type(None)), where)
                self.assertNotIn("%", str(node.value), where)


if __name__ == "__main__":
    unittest.main()
