"""What of ../shared/LANGUAGE.md can be told from the syntax of the package's files."""

import ast
import builtins
import io
import os
import tokenize
import unittest

FOLDER = os.path.join(os.path.dirname(os.path.dirname(os.path.abspath(__file__))), "diesnon")
BUILTINS = set(
    "len range enumerate zip min max sum abs sorted reversed int str bool bytes list tuple dict set isinstance "
    "ord repr any all divmod ValueError TypeError KeyError IndexError LookupError ZeroDivisionError super".split())
METHODS = set(
    "append clear copy count endswith extend find get index insert isalnum isalpha isdigit islower isspace "
    "isupper items join keys ljust lower lstrip partition pop remove replace reverse rfind rjust rpartition "
    "rsplit rstrip setdefault split splitlines startswith strip update upper values zfill bit_length".split())
BARRED = set("register mro elements open input law version_info with_traceback add_note".split())
BARRED_WORDS = set(
    "type typing typing_extensions enum Enum IntEnum StrEnum Flag IntFlag Generic Protocol ABC ABCMeta "
    "namedtuple NamedTuple TypedDict TYPE_CHECKING abstractmethod dataclass overload contextmanager".split())
# The prompt of Python itself, which the examples use, binds _ among the builtins.
TAKEN = set(dir(builtins)) - {"_"}
STATEMENTS = (
    ast.FunctionDef, ast.ClassDef, ast.ImportFrom, ast.Assign, ast.AugAssign, ast.If, ast.While, ast.For,
    ast.Return, ast.Break, ast.Continue, ast.Pass, ast.Raise, ast.Assert, ast.Delete, ast.Try, ast.Expr,
)
EXPRESSIONS = (
    ast.Constant, ast.Name, ast.Attribute, ast.Subscript, ast.Slice, ast.Call, ast.BinOp, ast.BoolOp,
    ast.UnaryOp, ast.Compare, ast.IfExp, ast.Tuple, ast.List, ast.Dict, ast.Set, ast.Starred, ast.ListComp,
    ast.DictComp, ast.Lambda, ast.JoinedStr, ast.FormattedValue,
)


def files():
    return sorted(name for name in os.listdir(FOLDER) if name != "__pycache__")


def text_of(name):
    with open(os.path.join(FOLDER, name), encoding="utf-8", newline="") as file:
        return file.read()


def tree_of(name):
    return ast.parse(text_of(name))


def trees():
    return [(name, tree_of(name)) for name in files()]


def nodes(*kinds):
    return [(name, node) for name, tree in trees() for node in ast.walk(tree) if isinstance(node, kinds)]


def assigned(tree):
    """The names of parameters, variables, loops and comprehensions."""
    told = [node.id for node in ast.walk(tree) if isinstance(node, ast.Name) and not isinstance(node.ctx, ast.Load)]
    return told + [node.arg for node in ast.walk(tree) if isinstance(node, ast.arg)]


def bound_at_top(tree):
    """The names that imports, functions, classes and assignments of a file bind."""
    told = []
    for node in tree.body:
        if isinstance(node, ast.ImportFrom):
            told.extend(alias.name for alias in node.names)
        elif isinstance(node, (ast.FunctionDef, ast.ClassDef)):
            told.append(node.name)
        elif isinstance(node, ast.Assign):
            told.extend(target.id for target in node.targets)
    return told


class Files(unittest.TestCase):
    def test_names_and_signs(self):
        for name in files():
            self.assertRegex(name, r"\A(__init__|[a-z][a-z0-9_]*)\.py\Z")
            self.assertEqual([sign for sign in text_of(name) if not (" " <= sign <= "~" or sign == "\n")], [])

    def test_sizes(self):
        for name in files():
            lines = text_of(name).split("\n")
            self.assertLessEqual(len(lines), 399, name)
            self.assertLessEqual(max(map(len, lines)), 120, name)
        for name, node in nodes(ast.FunctionDef):
            self.assertLessEqual(node.end_lineno - node.lineno + 1, 40, (name, node.name))

    def test_strings(self):
        for name in files():
            for token in tokenize.generate_tokens(io.StringIO(text_of(name)).readline):
                if token.type == tokenize.STRING:
                    self.assertNotIn("%", token.string, name)
                if token.type == tokenize.NAME:
                    self.assertNotIn(token.string, BARRED_WORDS, name)
        for name, node in nodes(ast.Constant):
            if isinstance(node.value, str) and "\n" not in node.value:
                self.assertFalse(BARRED_WORDS & set(node.value.split()), name)
            self.assertIsInstance(node.value, (str, int, type(None)), name)


class Imports(unittest.TestCase):
    def test_form(self):
        for name, node in nodes(ast.Import, ast.ImportFrom):
            self.assertIsInstance(node, ast.ImportFrom, name)
            self.assertEqual(node.level, 0)
            self.assertTrue(node.module.startswith("diesnon."), name)
            home = bound_at_top(tree_of(node.module.removeprefix("diesnon.") + ".py"))
            for alias in node.names:
                self.assertIsNone(alias.asname)
                self.assertIn(alias.name, home)

    def test_no_circles(self):
        wanted = {}
        for name, node in nodes(ast.ImportFrom):
            wanted.setdefault(name, set()).add(node.module.removeprefix("diesnon.") + ".py")
        left = set(files())
        while left:
            free = {name for name in left if not wanted.get(name, set()) & left}
            self.assertTrue(free, left)
            left -= free

    def test_each_import_is_used(self):
        for name, tree in trees():
            used = {node.id for node in ast.walk(tree) if isinstance(node, ast.Name)}
            for node in tree.body:
                if isinstance(node, ast.ImportFrom):
                    self.assertLessEqual({alias.name for alias in node.names}, used, name)


class Grammar(unittest.TestCase):
    def test_module_level(self):
        for name, tree in trees():
            for at, node in enumerate(tree.body):
                plain = (ast.FunctionDef, ast.ClassDef, ast.ImportFrom, ast.Assign)
                docstring = at == 0 and isinstance(node, ast.Expr) and isinstance(node.value, ast.Constant)
                self.assertTrue(docstring or isinstance(node, plain), (name, node.lineno))
            told = bound_at_top(tree)
            self.assertEqual(len(told), len(set(told)), name)

    def test_statements_and_expressions(self):
        for name, node in nodes(ast.stmt):
            self.assertIsInstance(node, STATEMENTS, (name, node.lineno))
        for name, node in nodes(ast.expr):
            if not isinstance(node, EXPRESSIONS):
                self.assertIsInstance(node, ast.GeneratorExp, (name, node.lineno))
        for name, node in nodes(ast.Div, ast.MatMult, ast.Pow):
            self.fail(name)
        for name, node in nodes(ast.FunctionDef, ast.ClassDef):
            self.assertEqual(node.decorator_list, [], name)

    def test_is(self):
        for name, node in nodes(ast.Compare):
            for sign, side in zip(node.ops, node.comparators):
                if isinstance(sign, (ast.Is, ast.IsNot)):
                    self.assertIsInstance(side, ast.Constant, (name, node.lineno))

    def test_errors_are_made_on_the_spot(self):
        for name, node in nodes(ast.Raise):
            self.assertTrue(node.exc is None or isinstance(node.exc, ast.Call), (name, node.lineno))


class Names(unittest.TestCase):
    def test_none_is_a_builtin_or_barred(self):
        for name, tree in trees():
            for told in assigned(tree) + bound_at_top(tree):
                self.assertNotIn(told, TAKEN, name)
                self.assertNotIn(told, BARRED, name)
                self.assertFalse(told.startswith("__"), name)
        for name, node in nodes(ast.Attribute):
            self.assertNotIn(node.attr, BARRED, name)

    def test_no_variable_has_the_name_of_an_import_or_class(self):
        for name, tree in trees():
            told = assigned(tree)
            for node in tree.body:
                if isinstance(node, ast.ClassDef):
                    self.assertNotIn(node.name, told)
                if isinstance(node, ast.ImportFrom):
                    self.assertFalse({alias.name for alias in node.names} & set(told), name)

    def test_the_blank_name_is_not_read(self):
        for name, node in nodes(ast.Name):
            if node.id == "_":
                self.assertIsInstance(node.ctx, ast.Store, (name, node.lineno))

    def test_builtins(self):
        for name, tree in trees():
            known = set(assigned(tree)) | set(bound_at_top(tree)) | BUILTINS
            known |= {node.name for node in ast.walk(tree) if isinstance(node, ast.FunctionDef)}
            for node in ast.walk(tree):
                if isinstance(node, ast.Name):
                    self.assertIn(node.id, known, (name, node.lineno))

    def test_methods_and_attributes(self):
        methods = {node.name for _, kind in nodes(ast.ClassDef) for node in kind.body
                   if isinstance(node, ast.FunctionDef)}
        stored = {node.attr for _, node in nodes(ast.Attribute) if isinstance(node.ctx, ast.Store)}
        self.assertFalse(methods & stored)
        for name, node in nodes(ast.Call):
            if isinstance(node.func, ast.Attribute):
                self.assertIn(node.func.attr, METHODS | methods, (name, node.lineno))

    def test_sets_are_sorted_or_compared_at_once(self):
        for name, tree in trees():
            inner = {id(node.args[0]) for node in ast.walk(tree)
                     if isinstance(node, ast.Call) and isinstance(node.func, ast.Name)
                     and node.func.id in ("sorted", "len") and node.args}
            for node in ast.walk(tree):
                if isinstance(node, ast.Call) and isinstance(node.func, ast.Name) and node.func.id == "set":
                    self.assertIn(id(node), inner, (name, node.lineno))
