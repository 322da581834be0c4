"""The files of the package keep to those rules of LANGUAGE.md that are easily read off them; not all rules are."""

import ast
import builtins
import pathlib
import re
import unittest

FOLDER = pathlib.Path(__file__).resolve().parent.parent / "nightpaper"

ALLOWED_BUILTINS = set(
    "len range enumerate zip min max sum abs sorted reversed int str bool bytes list tuple dict set frozenset "
    "isinstance ord repr any all divmod Exception ValueError TypeError KeyError IndexError LookupError "
    "ZeroDivisionError ArithmeticError OverflowError RuntimeError NotImplementedError AttributeError "
    "StopIteration NotImplemented True False None".split()
)
ALLOWED_METHODS = set(
    "append clear copy count endswith extend find get index insert isalnum isalpha isdigit islower isspace isupper "
    "items join keys ljust lower lstrip partition pop remove replace reverse rfind rjust rpartition rsplit rstrip "
    "setdefault split splitlines startswith strip update upper values zfill bit_length title capitalize swapcase "
    "casefold center expandtabs removeprefix removesuffix rindex isascii isdecimal isnumeric istitle isidentifier "
    "isprintable translate sort add discard".split()
)
ALLOWED_ATTRIBUTES = set("count index title find get join lower upper split strip copy add".split())
ALLOWED_DUNDERS = {"__init__", "__eq__", "__repr__", "__str__", "__len__"}
BARRED_WORDS = re.compile(
    r"\b(type|typing|typing_extensions|enum|Enum|IntEnum|StrEnum|Flag|IntFlag|Generic|Protocol|ABC|ABCMeta|namedtuple"
    r"|NamedTuple|TypedDict|TYPE_CHECKING|abstractmethod)\b|dataclass|overload|contextmanager"
)
BARRED_NAMES = set(
    "register mro elements open input version_info with_traceback add_note attrgetter breakpoint builtins compile "
    "copyright credits delattr dir eval exec exit gc getattr globals hasattr help id importlib license locals "
    "methodcaller os quit setattr super type vars sys format format_map args".split()
)
BARRED_NODES = (ast.Global, ast.AsyncFunctionDef, ast.AsyncFor, ast.AsyncWith, ast.Await, ast.Import, ast.Div)
BUILTIN_KINDS = (str, int, list, dict, set, bytes, tuple)
TAKES_A_LIST = {"any", "all", "min", "max", "sum", "sorted"}
ITERATES = {"list", "tuple", "dict", "sorted", "sum", "any", "all", "enumerate", "zip", "min", "max", "len"}
AT_ONCE = {"zip", "enumerate", "reversed", "range", "items", "keys", "values"}
IS_WITH = (None, True, False)


def files():
    return sorted(FOLDER.glob("*.py"))


def trees():
    return [(path, ast.parse(path.read_text(encoding="utf-8"))) for path in files()]


def nodes(kind):
    return [(path.name, node) for path, tree in trees() for node in ast.walk(tree) if isinstance(node, kind)]


def bound_names(tree):
    """The names that stand at the module level of a file, imports among them, one for each time they are bound."""
    names = []
    for statement in tree.body:
        if isinstance(statement, ast.ImportFrom):
            names += [alias.asname or alias.name for alias in statement.names]
        elif isinstance(statement, (ast.FunctionDef, ast.ClassDef)):
            names.append(statement.name)
        elif isinstance(statement, ast.Assign):
            names += [target.id for target in statement.targets]
    return names


def is_plain_value(node, functions):
    """Whether a value at module level is plain, or a list, a tuple or a dict of such and of functions above it."""
    if isinstance(node, ast.Dict):
        parts = [*node.keys, *node.values]
    elif isinstance(node, (ast.List, ast.Tuple)):
        parts = node.elts
    else:
        return isinstance(node, ast.Constant) or isinstance(node, ast.Name) and node.id in functions
    tables = [part for part in parts if isinstance(part, (ast.Dict, ast.List))]
    return not tables and all(is_plain_value(part, functions) for part in parts)


class Files(unittest.TestCase):
    def test_folder(self):
        self.assertTrue((FOLDER / "__init__.py").exists())
        for path in FOLDER.iterdir():
            if path.name != "__pycache__":
                self.assertRegex(path.name, r"\A[a-z0-9_]+\.py\Z")
                self.assertNotIn(path.stem, dir(builtins))
        self.assertLessEqual(len(files()), 100)

    def test_signs(self):
        for path in files():
            text = path.read_bytes().decode("ascii")
            self.assertRegex(text, r"\A[ -~\n]*\Z", path.name)

    def test_sizes(self):
        for path in files():
            lines = path.read_text(encoding="utf-8").split("\n")
            self.assertLessEqual(len(lines), 400, path.name)
            for number, line in enumerate(lines):
                self.assertLessEqual(len(line), 120, f"{path.name} {number + 1}")
        for name, node in nodes(ast.FunctionDef):
            self.assertLessEqual(node.end_lineno - node.lineno + 1, 40, f"{name} {node.name}")

    def test_barred_words(self):
        for path in files():
            self.assertIsNone(BARRED_WORDS.search(path.read_text(encoding="utf-8")), path.name)


class ModuleLevel(unittest.TestCase):
    def test_statements(self):
        for path, tree in trees():
            for number, node in enumerate(tree.body):
                docstring = number == 0 and isinstance(node, ast.Expr) and isinstance(node.value, ast.Constant)
                kinds = (ast.ImportFrom, ast.FunctionDef, ast.ClassDef, ast.Assign)
                self.assertTrue(docstring or isinstance(node, kinds), f"{path.name} {node.lineno}")
                if isinstance(node, ast.Assign):
                    above = {part.name for part in tree.body[:number] if isinstance(part, ast.FunctionDef)}
                    self.assertTrue(is_plain_value(node.value, above), f"{path.name} {node.lineno}")

    def test_one_binding_for_each_name(self):
        for path, tree in trees():
            names = bound_names(tree)
            self.assertEqual(len(names), len(set(names)), path.name)

    def test_imports(self):
        own = {path.stem: bound_names(tree) for path, tree in trees()}
        defined = {
            path.stem: [
                name for name in bound_names(tree)
                if not any(isinstance(node, ast.ImportFrom) and name in [alias.name for alias in node.names]
                           for node in tree.body)
            ]
            for path, tree in trees()
        }
        asked = {name: [] for name in own}
        for file, node in nodes(ast.ImportFrom):
            self.assertEqual(node.level, 0)
            package, _dot, module = node.module.partition(".")
            self.assertEqual(package, "nightpaper")
            for alias in node.names:
                self.assertIn(alias.name, defined[module], file)
            asked[file.removesuffix(".py")].append(module)
        while asked:
            free = [name for name in asked if not any(module in asked for module in asked[name])]
            self.assertTrue(free, f"in a ring: {asked}")
            for name in free:
                del asked[name]


class Expressions(unittest.TestCase):
    def test_barred_nodes(self):
        for file, node in nodes(BARRED_NODES):
            self.fail(f"{file} {getattr(node, 'lineno', '')} {node}")

    def test_constants(self):
        for file, node in nodes(ast.Constant):
            self.assertNotIsInstance(node.value, (float, complex), file)
            if isinstance(node.value, str):
                self.assertNotIn(chr(37), node.value, f"{file} {node.lineno}")

    def test_is(self):
        for file, node in nodes(ast.Compare):
            for sign, right in zip(node.ops, node.comparators):
                if isinstance(sign, (ast.Is, ast.IsNot)):
                    self.assertTrue(isinstance(right, ast.Constant) and right.value in IS_WITH, f"{file} {node.lineno}")

    def test_no_generator_expressions_where_a_list_is_taken(self):
        for file, node in nodes(ast.Call):
            if isinstance(node.func, ast.Name) and node.func.id in TAKES_A_LIST:
                for argument in node.args:
                    self.assertNotIsInstance(argument, ast.GeneratorExp, f"{file} {node.lineno}")

    def test_iterated_at_once(self):
        for path, tree in trees():
            allowed = set()
            for node in ast.walk(tree):
                if isinstance(node, (ast.For, ast.comprehension)):
                    allowed.add(node.iter)
                if isinstance(node, ast.Call) and node.args:
                    of_literal = isinstance(node.func, ast.Attribute) and isinstance(node.func.value, ast.Constant)
                    if of_literal or isinstance(node.func, ast.Name) and node.func.id in ITERATES:
                        allowed.add(node.args[0])
            for node in ast.walk(tree):
                if isinstance(node, ast.Call):
                    name = node.func.attr if isinstance(node.func, ast.Attribute) else getattr(node.func, "id", "")
                    if name in AT_ONCE:
                        self.assertIn(node, allowed, f"{path.name} {node.lineno}")

    def test_handlers(self):
        own = {node.name for _file, node in nodes(ast.ClassDef)}
        for file, node in nodes(ast.ExceptHandler):
            self.assertIsNotNone(node.type, file)
            caught = node.type.elts if isinstance(node.type, ast.Tuple) else [node.type]
            for one in caught:
                self.assertIn(one.id, own | {"KeyError", "ZeroDivisionError"}, f"{file} {node.lineno}")


class Names(unittest.TestCase):
    def test_builtins(self):
        for file, node in nodes(ast.Name):
            if node.id in dir(builtins):
                self.assertIn(node.id, ALLOWED_BUILTINS, f"{file} {node.lineno}")
                self.assertIsInstance(node.ctx, ast.Load, f"{file} {node.lineno}")

    def test_plain(self):
        names = [(file, node.id) for file, node in nodes(ast.Name)]
        names += [(file, node.arg) for file, node in nodes(ast.arg)]
        names += [(file, node.name) for file, node in nodes((ast.FunctionDef, ast.ClassDef))]
        names += [(file, node.attr) for file, node in nodes(ast.Attribute)]
        for file, name in names:
            if name not in ALLOWED_DUNDERS:
                self.assertRegex(name, r"\A[A-Za-z][A-Za-z0-9_]*\Z", file)
                self.assertNotIn(name, BARRED_NAMES, file)

    def test_parameters_and_locals_hide_nothing(self):
        for path, tree in trees():
            fixed = {name for node in tree.body if isinstance(node, ast.ImportFrom)
                     for name in [alias.name for alias in node.names]}
            fixed |= {node.name for node in tree.body if isinstance(node, ast.ClassDef)} | set(dir(builtins))
            for node in ast.walk(tree):
                if isinstance(node, ast.arg):
                    self.assertNotIn(node.arg, fixed, f"{path.name} {node.lineno}")
                if isinstance(node, ast.Name) and isinstance(node.ctx, ast.Store):
                    self.assertNotIn(node.id, fixed, f"{path.name} {node.lineno}")

    def test_methods_and_attributes(self):
        methods, stored = set(), set()
        for _file, node in nodes(ast.ClassDef):
            methods |= {part.name for part in node.body if isinstance(part, ast.FunctionDef)}
        for file, node in nodes(ast.Attribute):
            if isinstance(node.ctx, ast.Store):
                stored.add(node.attr)
                of_builtins = any(hasattr(kind, node.attr) for kind in BUILTIN_KINDS)
                self.assertTrue(not of_builtins or node.attr in ALLOWED_ATTRIBUTES, f"{file} {node.attr}")
        self.assertEqual(methods & stored, set())
        for file, node in nodes(ast.Attribute):
            self.assertIn(node.attr, methods | stored | ALLOWED_METHODS, f"{file} {node.lineno}")


class Classes(unittest.TestCase):
    def test_bodies(self):
        for file, node in nodes(ast.ClassDef):
            for number, part in enumerate(node.body):
                docstring = number == 0 and isinstance(part, ast.Expr) and isinstance(part.value, ast.Constant)
                self.assertTrue(docstring or isinstance(part, ast.FunctionDef), f"{file} {node.name}")
                if not docstring and part.name.startswith("__"):
                    self.assertIn(part.name, ALLOWED_DUNDERS)
            self.assertEqual(node.decorator_list, [])

    def test_functions(self):
        for file, node in nodes(ast.FunctionDef):
            self.assertEqual(node.args.posonlyargs, [], file)
            self.assertEqual(node.decorator_list, [], f"{file} {node.name}")
            if node.name in ("__repr__", "__str__", "__len__"):
                self.assertIsInstance(node.body[-1], ast.Return, f"{file} {node.name}")
                for part in ast.walk(node):
                    if isinstance(part, ast.Return):
                        self.assertTrue(self.is_plain(node.name, part.value), f"{file} {part.lineno}")

    def is_plain(self, method, told):
        """Whether what such a method returns is written as it must be."""
        if isinstance(told, ast.Call) and isinstance(told.func, ast.Name):
            return told.func.id in (("len",) if method == "__len__" else ("str", "repr"))
        if isinstance(told, ast.Constant):
            return isinstance(told.value, int if method == "__len__" else str)
        if isinstance(told, ast.Call) and isinstance(told.func, ast.Attribute):
            return method != "__len__" and told.func.attr == "join" and isinstance(told.func.value, ast.Constant)
        return method != "__len__" and isinstance(told, ast.JoinedStr)
