"""The package's files beside the rules of LANGUAGE.md, as far as a look at the syntax can tell."""

import ast
import builtins
import pathlib
import re
import unittest

PACKAGE = pathlib.Path(__file__).resolve().parent.parent / "columnbounds"

OWN_NAMES = """len range enumerate zip min max sum abs sorted reversed int str bool list tuple dict set frozenset
isinstance ord repr any all divmod Exception ValueError TypeError KeyError IndexError LookupError ZeroDivisionError
ArithmeticError OverflowError RuntimeError NotImplementedError AttributeError StopIteration""".split()

OWN_METHODS = """append clear copy count endswith extend find get index insert isalnum isalpha isdigit islower isspace
isupper items join keys ljust lower lstrip partition pop remove replace reverse rfind rjust rpartition rsplit rstrip
setdefault split splitlines startswith strip update upper values zfill bit_length""".split()

NODES = """Module FunctionDef ClassDef arguments arg Assign AugAssign If While For Return Break Continue Pass Raise Try
ExceptHandler Expr Constant Name Attribute Subscript Slice List Tuple Dict BinOp UnaryOp BoolOp Compare IfExp Call
ListComp comprehension JoinedStr FormattedValue Lambda ImportFrom alias keyword Load Store Add Sub Mult FloorDiv Mod Pow
BitAnd BitOr BitXor LShift RShift Invert USub Not And Or Eq NotEq Lt LtE Gt GtE Is IsNot In NotIn""".split()

NOT_NAMES = """register mro elements open input version_info with_traceback add_note attrgetter breakpoint builtins
compile copyright credits delattr dir eval exec exit gc getattr globals hasattr help id importlib license locals
methodcaller os quit setattr super type vars sys format format_map""".split()

NOT_WORDS = """type typing typing_extensions enum Enum IntEnum StrEnum Flag IntFlag Generic Protocol ABC ABCMeta
namedtuple NamedTuple TypedDict TYPE_CHECKING abstractmethod""".split()

NOT_VALUES = """items keys values pop update append clear extend insert remove reverse setdefault sort args encode
format""".split()

METHODS_OF_PYTHON = {name for kind in (str, int, list, dict, set, bytes, tuple) for name in vars(kind)}


def files():
    return sorted(PACKAGE.glob("*.py"))


def trees():
    return [(path, ast.parse(path.read_text(encoding="utf-8"))) for path in files()]


def nodes():
    return [(path, node) for path, tree in trees() for node in ast.walk(tree)]


def of_class(*kinds):
    return [(path, node) for path, node in nodes() if isinstance(node, kinds)]


def bound_names(tree):
    """Every name that a tree gives a meaning to, but for imports."""
    for node in ast.walk(tree):
        if isinstance(node, (ast.FunctionDef, ast.ClassDef)):
            yield node.name
        elif isinstance(node, ast.arg):
            yield node.arg
        elif isinstance(node, ast.Name) and isinstance(node.ctx, ast.Store):
            yield node.id
        elif isinstance(node, ast.ExceptHandler) and node.name:
            yield node.name


def imports_of(tree):
    return [node for node in tree.body if isinstance(node, ast.ImportFrom)]


def class_methods(tree):
    return [part for node in tree.body if isinstance(node, ast.ClassDef)
            for part in node.body if isinstance(part, ast.FunctionDef)]


def stored_attributes():
    return {node.attr for path, node in of_class(ast.Attribute) if isinstance(node.ctx, ast.Store)}


class FileTest(unittest.TestCase):
    def test_files(self):
        for path in PACKAGE.iterdir():
            if path.name != "__pycache__":
                self.assertRegex(path.name, r"^([a-z][a-z0-9_]*|__init__)\.py$")
                self.assertNotIn(path.stem, dir(builtins) + NOT_WORDS)
        self.assertTrue((PACKAGE / "__init__.py").is_file())

    def test_signs_and_sizes(self):
        for path in files():
            source = path.read_bytes().decode("utf-8")
            self.assertLessEqual({sign for sign in source} - {chr(k) for k in range(32, 127)}, {"\n"}, path)
            rows = source.split("\n")
            self.assertLessEqual(len(rows), 401, path)
            self.assertLessEqual(max(len(row) for row in rows), 120, path)

    def test_words(self):
        for path in files():
            source = path.read_text()
            self.assertFalse(set(re.findall(r"\w+", source)) & set(NOT_WORDS), path)
            self.assertIsNone(re.search("dataclass|overload|contextmanager", source), path)

    def test_function_sizes(self):
        for path, node in of_class(ast.FunctionDef):
            self.assertLessEqual(node.end_lineno - node.lineno + 1, 40, (path, node.name))


class ImportTest(unittest.TestCase):
    def test_from_the_file_that_defines_the_name(self):
        defined = {f"columnbounds.{path.stem}": set(bound_names(tree)) for path, tree in trees()}
        for path, tree in trees():
            for node in imports_of(tree):
                self.assertEqual(node.level, 0, path)
                for name in node.names:
                    self.assertIsNone(name.asname, path)
                    self.assertIn(name.name, defined[node.module], path)

    def test_every_import_is_used(self):
        for path, tree in trees():
            used = {node.id for node in ast.walk(tree) if isinstance(node, ast.Name)}
            for node in imports_of(tree):
                self.assertLessEqual({name.name for name in node.names}, used, path)

    def test_imports_stand_at_the_top(self):
        for path, tree in trees():
            self.assertEqual(len(imports_of(tree)), len([n for n in ast.walk(tree) if isinstance(n, ast.ImportFrom)]))

    def test_no_circle(self):
        draws = {path.stem: {node.module.split(".")[1] for node in imports_of(tree)} for path, tree in trees()}
        while draws:
            free = [stem for stem in draws if not draws[stem] & set(draws)]
            self.assertTrue(free, draws)
            draws = {stem: draws[stem] for stem in draws if stem not in free}


class SyntaxTest(unittest.TestCase):
    def test_only_the_nodes_allowed(self):
        for path, node in nodes():
            self.assertIn(node.__class__.__name__, NODES, (path, getattr(node, "lineno", None)))

    def test_the_top_of_a_file(self):
        for path, tree in trees():
            self.assertIsNotNone(ast.get_docstring(tree), path)
            for node in tree.body[1:]:
                self.assertIsInstance(node, (ast.ImportFrom, ast.FunctionDef, ast.ClassDef, ast.Assign), path)
                if isinstance(node, ast.Assign):
                    ast.literal_eval(node.value)
            names = [node.name for node in tree.body if isinstance(node, (ast.FunctionDef, ast.ClassDef))]
            names += [node.targets[0].id for node in tree.body if isinstance(node, ast.Assign)]
            names += [name.name for node in imports_of(tree) for name in node.names]
            self.assertEqual(len(names), len(set(names)), path)

    def test_functions(self):
        for path, node in of_class(ast.FunctionDef):
            given = node.args
            self.assertFalse(given.vararg or given.kwarg or given.kwonlyargs or given.posonlyargs, (path, node.name))
            self.assertFalse(node.decorator_list or node.returns, (path, node.name))
        for path, node in of_class(ast.arg):
            self.assertIsNone(node.annotation, path)

    def test_statements(self):
        for path, node in of_class(ast.Assign):
            self.assertEqual(len(node.targets), 1, path)
        for path, node in of_class(ast.Try):
            self.assertFalse(node.finalbody, path)
        for path, node in of_class(ast.For, ast.While):
            self.assertFalse(node.orelse, path)
        for path, node in of_class(ast.Expr):
            self.assertIsInstance(node.value, (ast.Call, ast.Constant), path)
        for path, node in of_class(ast.Raise):
            self.assertIsInstance(node.exc, ast.Call, path)

    def test_expressions(self):
        for path, node in of_class(ast.Constant):
            self.assertIn(node.value.__class__, (int, str, bool, None.__class__), path)
        for path, node in of_class(ast.ListComp):
            self.assertEqual(len(node.generators), 1, path)
            self.assertLessEqual(len(node.generators[0].ifs), 1, path)
        for path, node in of_class(ast.BinOp):
            if isinstance(node.op, ast.Pow):
                self.assertIsInstance(node.right, ast.Constant, path)
        for path, node in of_class(ast.Compare):
            if any(isinstance(op, (ast.Is, ast.IsNot)) for op in node.ops):
                self.assertIn(ast.unparse(node.comparators[0]), ("None", "True", "False"), path)
        for path, node in of_class(ast.keyword):
            self.assertIn(node.arg, ("key", "reverse", "default", "start", "strict"), path)

    def test_classes(self):
        for path, node in of_class(ast.ClassDef):
            self.assertLessEqual(len(node.bases), 1, path)
            self.assertFalse(node.keywords or node.decorator_list, path)
            for part in node.body:
                self.assertIsInstance(part, (ast.FunctionDef, ast.Expr), path)


class NameTest(unittest.TestCase):
    def test_names(self):
        for path, tree in trees():
            classes = {node.name for node in tree.body if isinstance(node, ast.ClassDef)}
            imported = {name.name for node in imports_of(tree) for name in node.names}
            for name in bound_names(tree):
                if name != "__init__":
                    self.assertRegex(name, r"^[A-Za-z][A-Za-z0-9_]*$", path)
                    self.assertNotIn(name, set(dir(builtins)) | set(NOT_NAMES) | imported, path)
            locals_bound = [node.arg for node in ast.walk(tree) if isinstance(node, ast.arg)]
            self.assertFalse(set(locals_bound) & classes, path)

    def test_names_of_python(self):
        for path, tree in trees():
            known = set(bound_names(tree)) | {name.name for node in imports_of(tree) for name in node.names}
            for node in ast.walk(tree):
                if isinstance(node, ast.Name) and node.id not in known:
                    self.assertIn(node.id, OWN_NAMES, path)

    def test_attributes(self):
        own = {node.name for path, tree in trees() for node in class_methods(tree)}
        stored = stored_attributes()
        self.assertFalse(own & stored)
        self.assertFalse(stored & set(NOT_VALUES + NOT_NAMES))
        fine = {"count", "index", "title", "find", "get", "join", "lower", "upper", "split", "strip", "copy", "add"}
        self.assertLessEqual(stored & METHODS_OF_PYTHON, fine)
        self.assertLessEqual(own & METHODS_OF_PYTHON, set(OWN_METHODS) | {"add", "discard", "__init__"})
        for path, node in of_class(ast.Attribute):
            self.assertIn(node.attr, own | stored | set(OWN_METHODS), path)

    def test_no_unused_definition(self):
        used = {node.id for path, node in of_class(ast.Name) if isinstance(node.ctx, ast.Load)}
        used |= {node.attr for path, node in of_class(ast.Attribute)} | {"answers", "__init__"}
        for path, tree in trees():
            tops = {node.targets[0].id for node in tree.body if isinstance(node, ast.Assign)}
            names = tops | {node.name for node in ast.walk(tree) if isinstance(node, (ast.FunctionDef, ast.ClassDef))}
            self.assertFalse(names - used, path)
