"""The package's files held against the part of Python that they keep to (L1 to L28, as far as a test sees them)."""

import ast
import builtins
import pathlib
import re
import unittest

import formorder

FOLDER = pathlib.Path(formorder.__file__).parent
FILES = sorted(path for path in FOLDER.iterdir() if path.name != "__pycache__")

STATEMENTS = (ast.Assign, ast.AugAssign, ast.If, ast.While, ast.For, ast.Return, ast.Break, ast.Continue, ast.Pass,
              ast.Raise, ast.Try, ast.Expr, ast.FunctionDef, ast.ClassDef, ast.ImportFrom)
EXPRESSIONS = (ast.Constant, ast.List, ast.Tuple, ast.Dict, ast.BinOp, ast.UnaryOp, ast.Compare, ast.BoolOp, ast.IfExp,
               ast.Call, ast.Attribute, ast.Subscript, ast.Slice, ast.ListComp, ast.Name, ast.Lambda, ast.JoinedStr,
               ast.FormattedValue)
NAMES = """len range enumerate zip min max sum abs sorted reversed int str bool list tuple dict set frozenset isinstance
ord repr any all divmod Exception ValueError TypeError KeyError IndexError LookupError ZeroDivisionError
ArithmeticError OverflowError RuntimeError NotImplementedError AttributeError StopIteration""".split()
METHODS = """append clear copy count endswith extend find get index insert isalnum isalpha isdigit islower isspace
isupper items join keys ljust lower lstrip partition pop remove replace reverse rfind rjust rpartition rsplit rstrip
setdefault split splitlines startswith strip update upper values zfill bit_length""".split()
WALKED = ("zip", "enumerate", "reversed", "range")
WALKERS = ("list", "tuple", "dict", "sorted", "sum", "any", "all", "enumerate", "zip", "min", "max")
NOT_USED = """register mro elements open input version_info with_traceback add_note attrgetter breakpoint builtins
compile copyright credits delattr dir eval exec exit gc getattr globals hasattr help id importlib license locals
methodcaller os quit setattr super type vars sys format format_map""".split()
NOWHERE = re.compile(r"\b(type|typing|typing_extensions|enum|Enum|IntEnum|StrEnum|Flag|IntFlag|Generic|Protocol|ABC"
                     r"|ABCMeta|namedtuple|NamedTuple|TypedDict|TYPE_CHECKING|abstractmethod)\b"
                     r"|dataclass|overload|contextmanager")
PYTHONS_OWN = set()
for value in ("", 0, [], {}, set(), (), b""):
    PYTHONS_OWN |= set(dir(value))


def tree_of(path):
    return ast.parse(path.read_text(encoding="ascii"))


def walk_all(kinds):
    for path in FILES:
        for node in ast.walk(tree_of(path)):
            if isinstance(node, kinds):
                yield path.name, node


def is_plain(node, functions):
    if isinstance(node, (ast.List, ast.Tuple)):
        return all(is_plain(part, functions) for part in node.elts)
    if isinstance(node, ast.Dict):
        return all(is_plain(part, functions) for part in node.keys + node.values)
    if isinstance(node, ast.Name):
        return node.id in functions
    return isinstance(node, ast.Constant) and isinstance(node.value, (int, str, type(None)))


def bound_names(tree):
    """All names that a file's functions bind: parameters and locals."""
    names = {node.arg for node in ast.walk(tree) if isinstance(node, ast.arg)}
    for node in ast.walk(tree):
        if isinstance(node, ast.Name) and isinstance(node.ctx, ast.Store):
            names.add(node.id)
    return names


class Files(unittest.TestCase):
    def test_plain_files_alone(self):
        self.assertTrue(FILES)
        for path in FILES:
            self.assertRegex(path.name, r"^([a-z][a-z0-9_]*|__init__)\.py$")
            self.assertNotIn(path.stem, dir(builtins))
            self.assertNotRegex(path.stem, r"^(tests?|testing|test_.*|site|conftest|sitecustomize|usercustomize)$")

    def test_signs_and_sizes(self):
        for path in FILES:
            lines = path.read_bytes().decode("ascii").split("\n")
            self.assertLessEqual(len(lines), 400, path.name)
            for line in lines:
                self.assertTrue(len(line) <= 120 and all(" " <= sign <= "~" for sign in line), (path.name, line))
                self.assertIsNone(NOWHERE.search(line), (path.name, line))

    def test_functions_of_40_lines(self):
        for name, node in walk_all(ast.FunctionDef):
            self.assertLessEqual(node.end_lineno - node.lineno + 1, 40, (name, node.name))


class Tops(unittest.TestCase):
    def test_top_of_a_file(self):
        for path in FILES:
            tree = tree_of(path)
            self.assertIsNotNone(ast.get_docstring(tree), path.name)
            seen, functions = [], []
            for node in tree.body[1:]:
                if isinstance(node, ast.FunctionDef):
                    functions.append(node.name)
                if isinstance(node, (ast.FunctionDef, ast.ClassDef)):
                    seen.append(node.name)
                elif isinstance(node, ast.ImportFrom):
                    seen += [name.name for name in node.names]
                else:
                    self.assertIsInstance(node, ast.Assign, path.name)
                    self.assertTrue(is_plain(node.value, functions), (path.name, node.lineno))
                    self.assertNotIsInstance(node.targets[0], ast.Tuple)
                    seen.append(node.targets[0].id)
            self.assertEqual(len(seen), len(set(seen)), path.name)

    def test_imports_without_a_circle(self):
        drawn = {}
        for path in FILES:
            nodes = [node for node in ast.walk(tree_of(path)) if isinstance(node, (ast.ImportFrom, ast.Import))]
            for node in nodes:
                self.assertIsInstance(node, ast.ImportFrom)
                self.assertEqual(node.level, 0)
                self.assertRegex(node.module, r"^formorder\.[a-z_]+$")
                source = tree_of(FOLDER / (node.module.split(".")[1] + ".py"))
                defined = [getattr(part, "name", None) for part in source.body]
                defined += [part.targets[0].id for part in source.body if isinstance(part, ast.Assign)]
                for name in node.names:
                    self.assertIn(name.name, defined, path.name)
                    self.assertIsNone(name.asname)
            drawn[path.stem] = {node.module.split(".")[1] for node in nodes}
        while drawn:
            free = [name for name in drawn if not drawn[name] & set(drawn)]
            self.assertTrue(free, drawn)
            for name in free:
                del drawn[name]


class Code(unittest.TestCase):
    def test_statements_and_expressions(self):
        for name, node in walk_all(ast.stmt):
            self.assertIsInstance(node, STATEMENTS, (name, node.lineno))
            if isinstance(node, (ast.For, ast.While, ast.Try)) and not isinstance(node, ast.Try):
                self.assertEqual(node.orelse, [], (name, node.lineno))
            if isinstance(node, ast.Try):
                self.assertEqual(node.finalbody, [], (name, node.lineno))
            if isinstance(node, ast.Assign):
                self.assertEqual(len(node.targets), 1, (name, node.lineno))
            if isinstance(node, ast.Expr) and not isinstance(node.value, ast.Call):
                self.assertEqual(node.lineno, 1, (name, node.lineno))
        for name, node in walk_all(ast.expr):
            self.assertIsInstance(node, EXPRESSIONS, (name, node.lineno))
            if isinstance(node, ast.Constant):
                self.assertIsInstance(node.value, (int, str, type(None)), (name, node.lineno))
            if isinstance(node, ast.BinOp):
                self.assertNotIsInstance(node.op, (ast.Div, ast.MatMult), (name, node.lineno))
            if isinstance(node, ast.ListComp):
                self.assertTrue(len(node.generators) == 1 and len(node.generators[0].ifs) < 2, (name, node.lineno))
            if isinstance(node, ast.Compare):
                for sign, side in zip(node.ops, node.comparators):
                    if isinstance(sign, (ast.Is, ast.IsNot)):
                        self.assertIn(getattr(side, "value", 0), (None, True, False), (name, node.lineno))

    def test_functions_and_classes(self):
        for name, node in walk_all(ast.FunctionDef):
            arguments = node.args
            self.assertFalse(arguments.vararg or arguments.kwarg or arguments.kwonlyargs or arguments.posonlyargs)
            self.assertEqual((node.decorator_list, node.returns), ([], None), (name, node.name))
            if node.name.startswith("_"):
                self.assertEqual(node.name, "__init__")
        for name, node in walk_all(ast.ClassDef):
            self.assertTrue(len(node.bases) <= 1 and not node.decorator_list and not node.keywords)
            for part in node.body:
                self.assertIsInstance(part, (ast.FunctionDef, ast.Pass), (name, node.name))

    def test_names(self):
        for path in FILES:
            tree = tree_of(path)
            bound = bound_names(tree)
            defined = {node.name for node in ast.walk(tree) if isinstance(node, (ast.FunctionDef, ast.ClassDef))}
            imported = {name.name for node in ast.walk(tree) if isinstance(node, ast.ImportFrom)
                        for name in node.names}
            classes = {node.name for node in tree.body if isinstance(node, ast.ClassDef)}
            self.assertFalse(bound & (imported | classes | set(dir(builtins)) | set(NOT_USED)), path.name)
            for name in bound | defined - {"__init__"}:
                self.assertRegex(name, r"^[A-Za-z][A-Za-z0-9_]*$")
                self.assertNotIn(name, NOT_USED)
            for node in ast.walk(tree):
                if isinstance(node, ast.Name) and node.id not in bound | defined | imported:
                    self.assertIn(node.id, NAMES, (path.name, node.lineno))

    def test_methods_and_values(self):
        methods = {part.name for name, node in walk_all(ast.ClassDef) for part in node.body
                   if isinstance(part, ast.FunctionDef)}
        values = {node.attr for name, node in walk_all(ast.Attribute) if isinstance(node.ctx, ast.Store)}
        self.assertFalse(methods & values)
        self.assertFalse((values - {"count", "index", "title", "find", "get", "join", "copy", "add"}) & PYTHONS_OWN)
        self.assertFalse((methods - set(METHODS) - {"__init__", "add", "discard"}) & PYTHONS_OWN)
        self.assertFalse((methods | values) & set(NOT_USED))
        for name, node in walk_all(ast.Attribute):
            self.assertIn(node.attr, methods | values | set(METHODS), (name, node.lineno))

    def test_walked_at_once(self):
        for path in FILES:
            tree = tree_of(path)
            walked = [id(node.iter) for node in ast.walk(tree) if isinstance(node, (ast.For, ast.comprehension))]
            for node in ast.walk(tree):
                if isinstance(node, ast.Call) and isinstance(node.func, ast.Name) and node.func.id in WALKERS:
                    walked += [id(part) for part in node.args]
            for node in ast.walk(tree):
                if isinstance(node, ast.Call) and isinstance(node.func, ast.Name) and node.func.id in WALKED:
                    self.assertIn(id(node), walked, (path.name, node.lineno))


if __name__ == "__main__":
    unittest.main()
