"""The package's files held against the part of Python that they keep to (L1 to L28, as far as a test sees them)."""

import ast
import builtins
import pathlib
import re
import tokenize
import unittest

import formorder

FOLDER = pathlib.Path(formorder.__file__).parent
FILES = sorted(path for path in FOLDER.iterdir() if path.name != "__pycache__")

STATEMENTS = (ast.Assign, ast.AugAssign, ast.If, ast.While, ast.For, ast.Return, ast.Break, ast.Continue, ast.Pass,
              ast.Raise, ast.Try, ast.Expr, ast.FunctionDef, ast.ClassDef, ast.ImportFrom)
EXPRESSIONS = (ast.Constant, ast.List, ast.Tuple, ast.Dict, ast.BinOp, ast.UnaryOp, ast.Compare, ast.BoolOp, ast.IfExp,
               ast.Call, ast.Attribute, ast.Subscript, ast.Slice, ast.ListComp, ast.Name, ast.Lambda, ast.JoinedStr,
               ast.FormattedValue)
NAMES = """len range enumerate zip min max sum abs sorted reversed int str bool list tuple dict set frozenset isinstance
ord repr any all divmod Exception ValueError TypeError KeyError IndexError LookupError ZeroDivisionError
ArithmeticError OverflowError RuntimeError NotImplementedError AttributeError StopIteration""".split()
KEYWORDS = dict(sorted=["key", "reverse"], min=["key", "default"], max=["key", "default"], sum=["start"],
                enumerate=["start"], zip=["strict"])
AS_KEY = ("len", "int", "str", "abs", "sum", "min", "max", "tuple")
CHANGES = ("append", "clear", "extend", "insert", "pop", "remove", "reverse", "setdefault", "update")
READERS = ("len", "list", "dict", "tuple", "sorted", "sum", "min", "max", "any", "all", "enumerate", "zip")
METHODS = """append clear copy count endswith extend find get index insert isalnum isalpha isdigit islower isspace
isupper items join keys ljust lower lstrip partition pop remove replace reverse rfind rjust rpartition rsplit rstrip
setdefault split splitlines startswith strip update upper values zfill bit_length""".split()
WALKED = ("zip", "enumerate", "reversed", "range")
WALKERS = ("list", "tuple", "dict", "sorted", "sum", "any", "all", "enumerate", "zip", "min", "max")
NOT_USED = """register mro elements open input version_info with_traceback add_note attrgetter breakpoint builtins
compile copyright credits delattr dir eval exec exit gc getattr globals hasattr help id importlib license locals
methodcaller os quit setattr super type vars sys format format_map""".split()
NOWHERE = re.compile(r"\b(type|typing|typing_extensions|enum|Enum|IntEnum|StrEnum|Flag|IntFlag|Generic|Protocol|ABC"
                     r"|ABCMeta|namedtuple|NamedTuple|TypedDict|TYPE_CHECKING|abstractmethod)\b"
                     r"|dataclass|overload|contextmanager")
PYTHONS_OWN = set()
for value in ("", 0, [], {}, set(), (), b""):
    PYTHONS_OWN |= set(dir(value))


def tree_of(path):
    return ast.parse(path.read_text(encoding="ascii"))


def walk_all(kinds):
    for path in FILES:
        for node in ast.walk(tree_of(path)):
            if isinstance(node, kinds):
                yield path.name, node


def is_plain(node, functions):
    if isinstance(node, (ast.List, ast.Tuple)):
        return all(is_plain(part, functions) for part in node.elts)
    if isinstance(node, ast.Dict):
        return all(is_plain(part, functions) for part in node.keys + node.values)
    if isinstance(node, ast.Name):
        return node.id in functions
    return isinstance(node, ast.Constant) and isinstance(node.value, (int, str, type(None)))


def bound_names(tree):
    """All names that a file's functions bind: parameters and locals."""
    names = {node.arg for node in ast.walk(tree) if isinstance(node, ast.arg)}
    for node in ast.walk(tree):
        if isinstance(node, ast.Name) and isinstance(node.ctx, ast.Store):
            names.add(node.id)
    return names


def is_call_of(node, names):
    return isinstance(node, ast.Call) and isinstance(node.func, ast.Name) and node.func.id in names


def classes_of_package():
    return {node.name: node for name, node in walk_all(ast.ClassDef)}


def parents_of(tree):
    return {id(child): node for node in ast.walk(tree) for child in ast.iter_child_nodes(node)}


class Files(unittest.TestCase):
    def test_plain_files_alone(self):
        self.assertTrue(FILES)
        for path in FILES:
            self.assertRegex(path.name, r"^([a-z][a-z0-9_]*|__init__)\.py$")
            self.assertNotIn(path.stem, dir(builtins))
            self.assertNotRegex(path.stem, r"^(tests?|testing|test_.*|site|conftest|sitecustomize|usercustomize)$")

    def test_signs_and_sizes(self):
        for path in FILES:
            lines = path.read_bytes().decode("ascii").split("\n")
            self.assertLessEqual(len(lines), 400, path.name)
            for line in lines:
                self.assertTrue(len(line) <= 120 and all(" " <= sign <= "~" for sign in line), (path.name, line))
                self.assertIsNone(NOWHERE.search(line), (path.name, line))

    def test_functions_of_40_lines(self):
        for name, node in walk_all(ast.FunctionDef):
            self.assertLessEqual(node.end_lineno - node.lineno + 1, 40, (name, node.name))


class Tops(unittest.TestCase):
    def test_top_of_a_file(self):
        for path in FILES:
            tree = tree_of(path)
            self.assertIsNotNone(ast.get_docstring(tree), path.name)
            seen, functions = [], []
            for node in tree.body[1:]:
                if isinstance(node, ast.FunctionDef):
                    functions.append(node.name)
                if isinstance(node, (ast.FunctionDef, ast.ClassDef)):
                    seen.append(node.name)
                elif isinstance(node, ast.ImportFrom):
                    seen += [name.name for name in node.names]
                else:
                    self.assertIsInstance(node, ast.Assign, path.name)
                    self.assertTrue(is_plain(node.value, functions), (path.name, node.lineno))
                    self.assertNotIsInstance(node.targets[0], ast.Tuple)
                    seen.append(node.targets[0].id)
            self.assertEqual(len(seen), len(set(seen)), path.name)

    def test_imports_without_a_circle(self):
        drawn = {}
        for path in FILES:
            nodes = [node for node in ast.walk(tree_of(path)) if isinstance(node, (ast.ImportFrom, ast.Import))]
            for node in nodes:
                self.assertIsInstance(node, ast.ImportFrom)
                self.assertEqual(node.level, 0)
                self.assertRegex(node.module, r"^formorder\.[a-z_]+$")
                source = tree_of(FOLDER / (node.module.split(".")[1] + ".py"))
                defined = [getattr(part, "name", None) for part in source.body]
                defined += [part.targets[0].id for part in source.body if isinstance(part, ast.Assign)]
                for name in node.names:
                    self.assertIn(name.name, defined, path.name)
                    self.assertIsNone(name.asname)
            drawn[path.stem] = {node.module.split(".")[1] for node in nodes}
        while drawn:
            free = [name for name in drawn if not drawn[name] & set(drawn)]
            self.assertTrue(free, drawn)
            for name in free:
                del drawn[name]


class Code(unittest.TestCase):
    def test_statements_and_expressions(self):
        for name, node in walk_all(ast.stmt):
            self.assertIsInstance(node, STATEMENTS, (name, node.lineno))
            if isinstance(node, (ast.For, ast.While, ast.Try)) and not isinstance(node, ast.Try):
                self.assertEqual(node.orelse, [], (name, node.lineno))
            if isinstance(node, ast.Try):
                self.assertEqual(node.finalbody, [], (name, node.lineno))
            if isinstance(node, ast.Assign):
                self.assertEqual(len(node.targets), 1, (name, node.lineno))
            if isinstance(node, ast.Expr) and not isinstance(node.value, ast.Call):
                self.assertEqual(node.lineno, 1, (name, node.lineno))
        for name, node in walk_all(ast.expr):
            self.assertIsInstance(node, EXPRESSIONS, (name, node.lineno))
            if isinstance(node, ast.Constant):
                self.assertIsInstance(node.value, (int, str, type(None)), (name, node.lineno))
            if isinstance(node, ast.BinOp):
                self.assertNotIsInstance(node.op, (ast.Div, ast.MatMult), (name, node.lineno))
            if isinstance(node, ast.ListComp):
                self.assertTrue(len(node.generators) == 1 and len(node.generators[0].ifs) < 2, (name, node.lineno))
            if isinstance(node, ast.Compare):
                for sign, side in zip(node.ops, node.comparators):
                    if isinstance(sign, (ast.Is, ast.IsNot)):
                        beside = getattr(side, "value", 0)
                        self.assertTrue(beside is None or beside is True or beside is False, (name, node.lineno))

    def test_functions_and_classes(self):
        for name, node in walk_all(ast.FunctionDef):
            arguments = node.args
            self.assertFalse(arguments.vararg or arguments.kwarg or arguments.kwonlyargs or arguments.posonlyargs)
            self.assertEqual((node.decorator_list, node.returns), ([], None), (name, node.name))
            if node.name.startswith("_"):
                self.assertEqual(node.name, "__init__")
        for name, node in walk_all(ast.ClassDef):
            self.assertTrue(len(node.bases) <= 1 and not node.decorator_list and not node.keywords)
            for part in node.body:
                self.assertIsInstance(part, (ast.FunctionDef, ast.Pass), (name, node.name))

    def test_names(self):
        for path in FILES:
            tree = tree_of(path)
            bound = bound_names(tree)
            defined = {node.name for node in ast.walk(tree) if isinstance(node, (ast.FunctionDef, ast.ClassDef))}
            imported = {name.name for node in ast.walk(tree) if isinstance(node, ast.ImportFrom)
                        for name in node.names}
            classes = {node.name for node in tree.body if isinstance(node, ast.ClassDef)}
            self.assertFalse(bound & (imported | classes | set(dir(builtins)) | set(NOT_USED)), path.name)
            for name in bound | defined - {"__init__"}:
                self.assertRegex(name, r"^[A-Za-z][A-Za-z0-9_]*$")
                self.assertNotIn(name, NOT_USED)
            for node in ast.walk(tree):
                if isinstance(node, ast.Name) and node.id not in bound | defined | imported:
                    self.assertIn(node.id, NAMES, (path.name, node.lineno))

    def test_methods_and_values(self):
        methods = {part.name for name, node in walk_all(ast.ClassDef) for part in node.body
                   if isinstance(part, ast.FunctionDef)}
        values = {node.attr for name, node in walk_all(ast.Attribute) if isinstance(node.ctx, ast.Store)}
        self.assertFalse(methods & values)
        self.assertFalse((values - {"count", "index", "title", "find", "get", "join", "copy", "add"}) & PYTHONS_OWN)
        self.assertFalse((methods - set(METHODS) - {"__init__", "add", "discard"}) & PYTHONS_OWN)
        self.assertFalse((methods | values) & set(NOT_USED))
        for name, node in walk_all(ast.Attribute):
            self.assertIn(node.attr, methods | values | set(METHODS), (name, node.lineno))

    def test_walked_at_once(self):
        for path in FILES:
            tree = tree_of(path)
            walked = [id(node.iter) for node in ast.walk(tree) if isinstance(node, (ast.For, ast.comprehension))]
            for node in ast.walk(tree):
                if isinstance(node, ast.Call) and isinstance(node.func, ast.Name) and node.func.id in WALKERS:
                    walked += [id(part) for part in node.args]
            for node in ast.walk(tree):
                if isinstance(node, ast.Call) and isinstance(node.func, ast.Name) and node.func.id in WALKED:
                    self.assertIn(id(node), walked, (path.name, node.lineno))

    def test_views_are_walked_at_once(self):
        for path in FILES:
            tree = tree_of(path)
            walked = [id(node.iter) for node in ast.walk(tree) if isinstance(node, (ast.For, ast.comprehension))]
            walked += [id(node.args[0]) for node in ast.walk(tree) if is_call_of(node, WALKERS) and node.args]
            for node in ast.walk(tree):
                if isinstance(node, ast.Call) and isinstance(node.func, ast.Attribute):
                    if node.func.attr in ("items", "keys", "values"):
                        self.assertIn(id(node), walked, (path.name, node.lineno))

    def test_what_a_loop_walks_is_not_changed_in_it(self):
        for name, loop in walk_all(ast.For):
            walked = {ast.dump(node) for node in ast.walk(loop.iter) if isinstance(node, (ast.Name, ast.Attribute))}
            for node in [part for line in loop.body for part in ast.walk(line)]:
                if isinstance(node, ast.Call) and isinstance(node.func, ast.Attribute) and node.func.attr in CHANGES:
                    self.assertNotIn(ast.dump(node.func.value), walked, (name, node.lineno))
                if isinstance(node, ast.Subscript) and isinstance(node.ctx, ast.Store):
                    self.assertNotIn(ast.dump(node.value), walked, (name, node.lineno))


class Kept(unittest.TestCase):
    """Names of a file's top, classes, and Python's own names, each where it may stand."""

    def test_lists_and_dicts_of_the_top_are_only_read(self):
        for path in FILES:
            tree = tree_of(path)
            for top in [node for node in tree.body if isinstance(node, ast.Assign)]:
                for part in ast.walk(top.value):
                    if isinstance(part, (ast.List, ast.Dict)):
                        self.assertTrue(part is top.value, (path.name, part.lineno))
                if isinstance(top.value, (ast.List, ast.Dict)):
                    self.only_read(top.targets[0].id)

    def only_read(self, name):
        for path in FILES:
            tree = tree_of(path)
            parents = parents_of(tree)
            for node in ast.walk(tree):
                if not isinstance(node, ast.Name) or node.id != name or isinstance(node.ctx, ast.Store):
                    continue
                around = parents[id(node)]
                read = isinstance(around, (ast.Compare, ast.comprehension, ast.For)) or is_call_of(around, READERS)
                if isinstance(around, ast.Subscript):
                    read = isinstance(around.ctx, ast.Load) and around.value is node
                if isinstance(around, ast.Attribute):
                    read = around.attr in ("get", "items", "keys", "values", "count", "index")
                self.assertTrue(read, (path.name, node.lineno))

    def test_classes(self):
        known = classes_of_package()
        self.assertEqual(len(known), len(list(walk_all(ast.ClassDef))))
        for path in FILES:
            tree = tree_of(path)
            parents = parents_of(tree)
            self.assertEqual({node.name for node in ast.walk(tree) if isinstance(node, ast.ClassDef)},
                             {node.name for node in tree.body if isinstance(node, ast.ClassDef)})
            for node in ast.walk(tree):
                if isinstance(node, ast.Name) and node.id in known:
                    around = parents[id(node)]
                    stands = isinstance(around, (ast.ClassDef, ast.ExceptHandler, ast.Raise))
                    stands = stands or (isinstance(around, ast.Call) and around.func is node)
                    self.assertTrue(stands or is_call_of(around, ["isinstance"]), (path.name, node.lineno))
        for node in known.values():
            methods = [part.name for part in node.body if isinstance(part, ast.FunctionDef)]
            self.assertEqual(len(methods), len(set(methods)), node.name)

    def test_errors(self):
        known = classes_of_package()
        errors = [name for name in known if known[name].bases]
        for name in errors:
            self.assertIn(known[name].bases[0].id, errors + ["Exception", "ValueError"], name)
        for name, node in walk_all(ast.ExceptHandler):
            self.assertIsInstance(node.type, ast.Name, (name, node.lineno))
            self.assertIn(node.type.id, errors + ["KeyError", "ZeroDivisionError", "StopIteration"])
        for name, node in walk_all(ast.Raise):
            self.assertTrue(is_call_of(node.exc, errors) and node.cause is None, (name, node.lineno))

    def test_pythons_own_names_are_called(self):
        for path in FILES:
            tree = tree_of(path)
            parents = parents_of(tree)
            for node in [part for part in ast.walk(tree) if isinstance(part, ast.Name)]:
                self.assertNotIn(node.id, ("set", "frozenset"), (path.name, node.lineno))
                if node.id in NAMES and not node.id.endswith(("Error", "Exception", "StopIteration")):
                    around = parents[id(node)]
                    as_key = isinstance(around, ast.keyword) and around.arg == "key" and node.id in AS_KEY
                    called = isinstance(around, ast.Call) and around.func is node
                    self.assertTrue(called or as_key or is_call_of(around, ["isinstance"]), (path.name, node.lineno))

    def test_keywords(self):
        functions = {node.name for name, node in walk_all(ast.FunctionDef)} - set(METHODS)
        for name, node in walk_all(ast.Call):
            called = getattr(node.func, "id", getattr(node.func, "attr", None))
            for keyword in node.keywords:
                self.assertTrue(called in functions or keyword.arg in KEYWORDS.get(called, []), (name, node.lineno))

    def test_methods_are_called_where_they_stand(self):
        methods = {part.name for node in classes_of_package().values() for part in node.body
                   if isinstance(part, ast.FunctionDef)}
        values = {node.attr for name, node in walk_all(ast.Attribute) if isinstance(node.ctx, ast.Store)}
        for path in FILES:
            tree = tree_of(path)
            parents = parents_of(tree)
            for node in ast.walk(tree):
                if isinstance(node, ast.Attribute) and node.attr in (methods | set(METHODS)) - values:
                    around = parents[id(node)]
                    called = isinstance(around, ast.Call) and around.func is node
                    as_key = isinstance(around, ast.keyword) and around.arg == "key"
                    self.assertTrue(called or as_key, (path.name, node.lineno))


class Written(unittest.TestCase):
    """What is written: annotations, defaults, lambdas, numbers, texts, and the methods with two underscores."""

    def test_no_annotations_and_plain_defaults(self):
        for name, node in walk_all(ast.arg):
            self.assertIsNone(node.annotation, (name, node.lineno))
            self.assertRegex(node.arg, r"^[A-Za-z][A-Za-z0-9_]*$")
        for name, node in walk_all((ast.FunctionDef, ast.Lambda)):
            self.assertTrue(all(isinstance(value, ast.Constant) for value in node.args.defaults), (name, node.lineno))

    def test_attributes_are_plain_names(self):
        for name, node in walk_all(ast.Attribute):
            self.assertRegex(node.attr, r"^[A-Za-z][A-Za-z0-9_]*$|^__init__$")
            self.assertNotRegex(node.attr, r"^(f|tb|co|gi|cr|ag)_", (name, node.lineno))

    def test_values_are_given_through_a_local_name(self):
        for path in FILES:
            tops = {name for node in tree_of(path).body if isinstance(node, (ast.ClassDef, ast.Assign))
                    for name in ([node.name] if isinstance(node, ast.ClassDef) else [node.targets[0].id])}
            for node in ast.walk(tree_of(path)):
                if isinstance(node, ast.Attribute) and isinstance(node.ctx, ast.Store):
                    self.assertIsInstance(node.value, ast.Name, (path.name, node.lineno))
                    self.assertNotIn(node.value.id, tops, (path.name, node.lineno))

    def test_one_lambda_a_line(self):
        lines = [(name, node.lineno) for name, node in walk_all(ast.Lambda)]
        self.assertEqual(len(lines), len(set(lines)))

    def test_numbers_and_texts(self):
        for name, node in walk_all(ast.BinOp):
            if isinstance(node.op, ast.Pow):
                self.assertTrue(isinstance(node.right, ast.Constant) and 0 <= node.right.value <= 64)
        for path in FILES:
            with open(path, "rb") as file:
                for token in tokenize.tokenize(file.readline):
                    if token.type == tokenize.STRING:
                        self.assertNotIn("%", token.string, (path.name, token.start))
                        self.assertNotRegex(token.string, r"\\[^nt\\'\"]")
                    if token.type == tokenize.NUMBER:
                        self.assertLess(len(token.string), 900)

    def test_init_gives_back_nothing(self):
        for name, node in walk_all(ast.FunctionDef):
            if node.name == "__init__":
                self.assertFalse([part for part in ast.walk(node) if isinstance(part, ast.Return)], name)

    def test_an_init_file_binds_no_name_of_a_file(self):
        self.assertEqual(len(tree_of(FOLDER / "__init__.py").body), 1)


if __name__ == "__main__":
    unittest.main()
