"""The package keeps to its small part of Python: what of the rules a look at the files can tell."""

import ast
import builtins
import pathlib
import re
import unittest

import sameruns

FOLDER = pathlib.Path(sameruns.__file__).parent
PACKAGE = FOLDER.name

OWN_METHODS_WITH_UNDERSCORES = {"__init__", "__eq__", "__repr__", "__str__", "__len__"}
ERRORS = set("""Exception ValueError TypeError KeyError IndexError LookupError ZeroDivisionError ArithmeticError
OverflowError RuntimeError NotImplementedError AttributeError StopIteration""".split())
BUILTINS = ERRORS | set("""len range enumerate zip min max sum abs sorted reversed int str bool list tuple dict set
frozenset isinstance ord repr any all divmod""".split())
METHODS = set("""append clear copy count endswith extend find get index insert isalnum isalpha isdigit islower isspace
isupper items join keys ljust lower lstrip partition pop remove replace reverse rfind rjust rpartition rsplit rstrip
setdefault split splitlines startswith strip update upper values zfill bit_length""".split())
VALUES = set("count index title find get join lower upper split strip copy add".split())
CHANGING = set("append clear extend insert pop remove reverse setdefault update".split())
NEVER = set("""register mro elements open input version_info with_traceback add_note f_back tb_next co_names
format format_map""".split())
NEVER_NAMES = set("""attrgetter breakpoint builtins compile copyright credits delattr dir eval exec exit gc getattr
globals hasattr help id importlib license locals methodcaller os quit setattr super type vars sys""".split())
NEVER_WORDS = re.compile(r"\b(type|typing|typing_extensions|enum|Enum|IntEnum|StrEnum|Flag|IntFlag|Generic|Protocol|ABC"
                         r"|ABCMeta|namedtuple|NamedTuple|TypedDict|TYPE_CHECKING|abstractmethod)\b"
                         r"|dataclass|overload|contextmanager")
PYTHON_VALUES = {name for value in ("", 0, [], {}, set(), b"", (), True) for name in dir(value)}

STATEMENTS = (ast.Assign, ast.AugAssign, ast.If, ast.While, ast.For, ast.Return, ast.Break, ast.Continue, ast.Pass,
              ast.Raise, ast.Try, ast.Expr, ast.FunctionDef)
EXPRESSIONS = (ast.Constant, ast.List, ast.Tuple, ast.Dict, ast.Set, ast.BinOp, ast.UnaryOp, ast.Compare, ast.BoolOp,
               ast.IfExp, ast.Call, ast.Attribute, ast.Subscript, ast.Slice, ast.ListComp, ast.JoinedStr,
               ast.FormattedValue, ast.Name, ast.Lambda)


def files():
    return sorted(path for path in FOLDER.iterdir() if path.name != "__pycache__")


def parse(path):
    return ast.parse(path.read_text(encoding="utf-8"))


def nodes(*kinds):
    for path in files():
        for node in ast.walk(parse(path)):
            if isinstance(node, kinds):
                yield f"{path.name}:{getattr(node, 'lineno', 0)}", node


def is_docstring(node):
    return isinstance(node, ast.Expr) and isinstance(node.value, ast.Constant) and isinstance(node.value.value, str)


def is_plain(node, functions):
    if isinstance(node, ast.UnaryOp):
        return isinstance(node.op, ast.USub) and is_plain(node.operand, functions)
    if isinstance(node, ast.Constant):
        return node.value is None or type(node.value) in (int, str, bool)
    if isinstance(node, ast.Name):
        return node.id in functions
    if isinstance(node, ast.Dict):
        return all(is_plain(part, functions) for part in node.keys + node.values)
    return isinstance(node, (ast.List, ast.Tuple)) and all(is_plain(part, functions) for part in node.elts)


def bound_names(tree):
    """The names of a file's top, but those that it imports."""
    names = []
    for node in tree.body:
        if isinstance(node, (ast.FunctionDef, ast.ClassDef)):
            names.append(node.name)
        if isinstance(node, ast.Assign):
            names.append(node.targets[0].id)
    return names


class Files(unittest.TestCase):
    def test_names_of_files(self):
        self.assertEqual(PACKAGE, "sameruns")
        self.assertIn("__init__.py", [path.name for path in files()])
        for path in files():
            self.assertTrue(path.is_file(), path)
            self.assertRegex(path.name, r"^([a-z][a-z0-9_]*|__init__)\.py$")
            self.assertNotRegex(path.name, r"^(test|tests|testing|test_.*|site|conftest|\w*customize)\.py$")
            self.assertNotIn(path.stem, dir(builtins))

    def test_size_and_signs(self):
        for path in files():
            text = path.read_text(encoding="utf-8")
            rows = text.split("\n")
            self.assertLessEqual(len(rows) - 1, 400, path)
            self.assertTrue(all(sign == "\n" or " " <= sign <= "~" for sign in text), path)
            for number, row in enumerate(rows, 1):
                self.assertLessEqual(len(row), 120, f"{path.name}:{number}")
                self.assertIsNone(NEVER_WORDS.search(row), f"{path.name}:{number}")

    def test_size_of_functions(self):
        for where, node in nodes(ast.FunctionDef):
            self.assertLessEqual(node.end_lineno - node.lineno + 1, 40, where)


class Tops(unittest.TestCase):
    def test_rows_of_a_top(self):
        for path in files():
            functions = []
            tree = parse(path)
            names = bound_names(tree)
            self.assertEqual(len(names), len(set(names)), path)
            for number, node in enumerate(tree.body):
                where = f"{path.name}:{node.lineno}"
                if isinstance(node, ast.FunctionDef):
                    functions.append(node.name)
                elif isinstance(node, ast.Assign):
                    self.assertTrue(is_plain(node.value, functions), where)
                    for part in ast.walk(node.value):
                        if part != node.value:
                            self.assertNotIsInstance(part, (ast.List, ast.Dict), where)
                elif not isinstance(node, (ast.ClassDef, ast.ImportFrom)):
                    self.assertTrue(number == 0 and is_docstring(node), where)

    def test_imports(self):
        draws = {}
        trees = {f"{PACKAGE}.{path.stem}": parse(path) for path in files()}
        for name, tree in trees.items():
            draws[name] = []
            for node in ast.walk(tree):
                self.assertNotIsInstance(node, ast.Import, name)
                if isinstance(node, ast.ImportFrom):
                    self.assertIn(node, tree.body, name)
                    self.assertEqual(node.level, 0, name)
                    self.assertIn(node.module, trees, name)
                    draws[name].append(node.module)
                    for alias in node.names:
                        self.assertIn(alias.name, bound_names(trees[node.module]), name)
        self.assertEqual(draws[f"{PACKAGE}.__init__"], [])
        while draws:
            free = [name for name in draws if not any(other in draws for other in draws[name])]
            self.assertTrue(free, f"files that draw from one another among {sorted(draws)}")
            for name in free:
                draws.pop(name)


class Functions(unittest.TestCase):
    def test_parameters(self):
        for where, node in nodes(ast.FunctionDef, ast.Lambda):
            given = node.args
            self.assertFalse(given.vararg or given.kwarg or given.kwonlyargs or given.posonlyargs, where)
            self.assertTrue(all(is_plain(value, ()) for value in given.defaults), where)
            self.assertFalse(any(part.annotation for part in given.args), where)
        for where, node in nodes(ast.FunctionDef):
            self.assertFalse(node.decorator_list or node.returns, where)

    def test_classes(self):
        own = {node.name for where, node in nodes(ast.ClassDef)}
        for where, node in nodes(ast.ClassDef):
            self.assertFalse(node.decorator_list or node.keywords or len(node.bases) > 1, where)
            for base in node.bases:
                self.assertIn(base.id, (own | ERRORS) - {"StopIteration", "AttributeError"}, where)
            for number, part in enumerate(node.body):
                self.assertTrue(isinstance(part, ast.FunctionDef) or number == 0 and is_docstring(part), where)
            names = [part.name for part in node.body if isinstance(part, ast.FunctionDef)]
            self.assertEqual(len(names), len(set(names)), where)

    def test_statements(self):
        for where, node in nodes(ast.FunctionDef):
            for number, part in enumerate(node.body):
                if number == 0 and is_docstring(part):
                    continue
                for inner in ast.walk(part):
                    if isinstance(inner, ast.stmt):
                        self.assertIsInstance(inner, STATEMENTS, where)
                    if isinstance(inner, ast.Expr):
                        self.assertIsInstance(inner.value, ast.Call, where)
                    if isinstance(inner, ast.Assign):
                        self.assertEqual(len(inner.targets), 1, where)
                        self.assertNotIsInstance(inner.targets[0], (ast.Tuple, ast.List), where)
                    if isinstance(inner, (ast.While, ast.For)):
                        self.assertFalse(inner.orelse, where)
                    if isinstance(inner, ast.Try):
                        self.assertFalse(inner.finalbody, where)

    def test_expressions(self):
        for where, node in nodes(ast.expr):
            self.assertIsInstance(node, EXPRESSIONS, where)
            if isinstance(node, ast.ListComp):
                self.assertEqual(len(node.generators), 1, where)
                self.assertLessEqual(len(node.generators[0].ifs), 1, where)
            if isinstance(node, ast.BinOp):
                self.assertNotIsInstance(node.op, (ast.Div, ast.MatMult), where)
                self.assertFalse(isinstance(node.op, ast.Pow) and not isinstance(node.right, ast.Constant), where)
            if isinstance(node, ast.Constant):
                self.assertIn(type(node.value), (int, str, bool, type(None)), where)
                self.assertFalse(isinstance(node.value, str) and "%" in node.value, where)
            if isinstance(node, ast.Compare):
                for operator, right in zip(node.ops, node.comparators):
                    if isinstance(operator, (ast.Is, ast.IsNot)):
                        self.assertTrue(isinstance(right, ast.Constant) and right.value in (None, True, False), where)


class Walks(unittest.TestCase):
    def test_walked_on_the_spot(self):
        walkers = ("zip", "enumerate", "reversed", "range")
        takers = ("list", "tuple", "dict", "sorted", "sum", "any", "all", "enumerate", "zip", "min", "max")
        spots = []
        for where, node in nodes(ast.For, ast.comprehension):
            spots.append(ast.dump(node.iter))
        for where, node in nodes(ast.Call):
            if isinstance(node.func, ast.Name) and node.func.id in takers and node.args:
                spots.append(ast.dump(node.args[0]))
        for where, node in nodes(ast.Call):
            named = isinstance(node.func, ast.Name) and node.func.id in walkers
            if named or isinstance(node.func, ast.Attribute) and node.func.attr in ("items", "keys", "values"):
                self.assertIn(ast.dump(node), spots, where)

    def test_sets_are_asked_sorted_or_counted(self):
        allowed = []
        for where, node in nodes(ast.Call):
            if isinstance(node.func, ast.Name) and node.func.id in ("sorted", "len") and not node.keywords:
                allowed.extend(ast.dump(part) for part in node.args)
        for where, node in nodes(ast.Compare):
            allowed.extend(ast.dump(part) for part in [node.left] + node.comparators)
        for where, node in nodes(ast.Call):
            if isinstance(node.func, ast.Name) and node.func.id in ("set", "frozenset"):
                self.assertIn(ast.dump(node), allowed, where)


class Names(unittest.TestCase):
    def test_names_that_are_bound(self):
        for path in files():
            tree = parse(path)
            kept = {alias.name for node in tree.body if isinstance(node, ast.ImportFrom) for alias in node.names}
            kept |= {node.name for node in tree.body if isinstance(node, ast.ClassDef)}
            for node in ast.walk(tree):
                name = None
                if isinstance(node, ast.Name) and isinstance(node.ctx, ast.Store):
                    name = node.id
                elif isinstance(node, ast.arg):
                    name = node.arg
                elif isinstance(node, ast.ExceptHandler):
                    name = node.name
                if name is not None:
                    self.assertRegex(name, r"^[A-Za-z][A-Za-z0-9_]*$", path)
                    self.assertNotIn(name, set(dir(builtins)) | kept | NEVER | NEVER_NAMES, path)

    def test_python_s_own_names(self):
        for where, node in nodes(ast.Name):
            if hasattr(builtins, node.id):
                self.assertIn(node.id, BUILTINS, where)
            self.assertNotIn(node.id, NEVER | NEVER_NAMES, where)

    def test_methods_and_values(self):
        methods = {part.name for where, node in nodes(ast.ClassDef) for part in node.body
                   if isinstance(part, ast.FunctionDef)}
        values = {node.attr for where, node in nodes(ast.Attribute) if isinstance(node.ctx, ast.Store)}
        self.assertEqual(methods & values, set())
        for name in methods:
            self.assertTrue(name in OWN_METHODS_WITH_UNDERSCORES or name not in PYTHON_VALUES and name[0] != "_", name)
        for name in values:
            self.assertTrue(name in VALUES or name not in PYTHON_VALUES and name[0] != "_", name)
        for where, node in nodes(ast.Attribute):
            self.assertIn(node.attr, (METHODS | methods | values) - NEVER, where)

    def test_tops_are_only_read(self):
        for path in files():
            tops = {name for name in bound_names(parse(path)) if name.isupper()}
            for node in ast.walk(parse(path)):
                if isinstance(node, ast.Attribute) and isinstance(node.value, ast.Name) and node.value.id in tops:
                    self.assertNotIn(node.attr, CHANGING, path)
                if isinstance(node, ast.Subscript) and isinstance(node.value, ast.Name) and node.value.id in tops:
                    self.assertIsInstance(node.ctx, ast.Load, path)


if __name__ == "__main__":
    unittest.main()
