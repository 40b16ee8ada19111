"""The package keeps to the subset of Python in LANGUAGE.md, as far as a look at its text can tell."""

import ast
import builtins
import pathlib
import re
import unittest

FOLDER = pathlib.Path(__file__).resolve().parent.parent / "heedless"
FILES = sorted(FOLDER.rglob("*.py"))
TREES = {path: ast.parse(path.read_text()) for path in FILES}

BUILTINS = set("""len range enumerate zip min max sum abs sorted reversed int str bool list tuple dict set isinstance
    ord repr any all divmod iter next Exception ValueError TypeError KeyError IndexError LookupError ZeroDivisionError
    ArithmeticError OverflowError RuntimeError NotImplementedError""".split())
METHODS = set("""append clear copy count endswith extend find get index insert isalnum isalpha isdigit islower isspace
    isupper items join keys ljust lower lstrip partition pop remove replace reverse rfind rjust rpartition rsplit
    rstrip setdefault split splitlines startswith strip update upper values zfill bit_length add discard
    __init__""".split())
DOUBLE = {"__init__", "__eq__", "__repr__", "__str__", "__len__"}
BARRED = re.compile(r"\b(type|typing|typing_extensions|enum|Enum|IntEnum|StrEnum|Flag|IntFlag|Generic|Protocol|ABC"
                    r"|ABCMeta|namedtuple|NamedTuple|TypedDict|TYPE_CHECKING|abstractmethod)\b"
                    r"|dataclass|overload|contextmanager")
CHANGES = set("append clear extend insert pop remove reverse setdefault update sort add discard".split())
AT_ONCE = {"range", "zip", "enumerate", "reversed", "items", "keys", "values"}
NAMES_BARRED = set("""register mro elements open input version_info with_traceback add_note attrgetter breakpoint
    builtins compile copyright credits delattr dir eval exec exit gc getattr globals hasattr help id importlib license
    locals methodcaller os quit setattr super type vars sys format format_map args""".split())


def bound_names(tree):
    """Every name that a file gives a meaning."""
    names = []
    for node in ast.walk(tree):
        if isinstance(node, ast.Name) and not isinstance(node.ctx, ast.Load):
            names.append(node.id)
        elif isinstance(node, (ast.FunctionDef, ast.ClassDef)):
            names.append(node.name)
        elif isinstance(node, ast.arg):
            names.append(node.arg)
        elif isinstance(node, ast.alias):
            names.append(node.asname or node.name)
        elif isinstance(node, ast.ExceptHandler) and node.name:
            names.append(node.name)
    return names


def top_names(tree):
    """The names of a file's classes and imports."""
    names = [node.name for node in tree.body if isinstance(node, ast.ClassDef)]
    return names + [alias.name for node in tree.body if isinstance(node, ast.ImportFrom) for alias in node.names]


def inner_names(tree):
    """The names of all parameters and local variables."""
    functions = [node for node in ast.walk(tree) if isinstance(node, ast.FunctionDef)]
    return {name for node in functions for name in bound_names(ast.Module([node.args] + node.body, []))}


def class_names():
    """All methods, and all attributes that are assigned, of the package's classes."""
    methods, attributes = set(), set()
    for tree in TREES.values():
        for node in ast.walk(tree):
            if isinstance(node, ast.ClassDef):
                methods |= {each.name for each in node.body if isinstance(each, ast.FunctionDef)}
            if isinstance(node, ast.Attribute) and not isinstance(node.ctx, ast.Load):
                attributes.add(node.attr)
    return methods, attributes


def gone_over(node):
    """What a loop goes over, straight or through enumerate, zip and the like."""
    if isinstance(node, ast.Call) and isinstance(node.func, ast.Name) and node.func.id in AT_ONCE:
        return {name for each in node.args for name in gone_over(each)}
    if isinstance(node, ast.Call) and isinstance(node.func, ast.Attribute) and node.func.attr in AT_ONCE:
        return gone_over(node.func.value)
    if isinstance(node, ast.Subscript):
        return {ast.unparse(node)} | gone_over(node.value)
    return {ast.unparse(node)}


class FilesTest(unittest.TestCase):
    def test_files(self):
        for path in FOLDER.rglob("*"):
            if "__pycache__" not in path.parts:
                self.assertEqual(path.suffix, ".py", path)
                self.assertRegex(path.stem, r"^([a-z][a-z0-9_]*|__init__|__main__)$")
        self.assertTrue((FOLDER / "__init__.py").exists())

    def test_characters_and_lengths(self):
        for path in FILES:
            text = path.read_text()
            self.assertEqual(set(re.findall(r"[^ -~\n]", text)), set(), path)
            self.assertLessEqual(len(text.splitlines()), 400, path)
            self.assertLessEqual(max(len(line) for line in text.splitlines()), 120, path)
            self.assertIsNone(BARRED.search(text), path)

    def test_function_lengths(self):
        for path, tree in TREES.items():
            for node in ast.walk(tree):
                if isinstance(node, ast.FunctionDef):
                    self.assertLessEqual(node.end_lineno - node.lineno + 1, 40, (path, node.name))


class ImportsTest(unittest.TestCase):
    def imports(self, tree):
        return [node for node in ast.walk(tree) if isinstance(node, (ast.Import, ast.ImportFrom))]

    def test_from_the_file_that_defines_the_name(self):
        for path, tree in TREES.items():
            for node in self.imports(tree):
                self.assertIsInstance(node, ast.ImportFrom, path)
                self.assertEqual((node.level, node.module.split(".")[0]), (0, "heedless"), path)
                source = TREES[FOLDER / (node.module.split(".")[1] + ".py")]
                defined = [name for each in source.body if not isinstance(each, ast.ImportFrom)
                           for name in bound_names(each)]
                for alias in node.names:
                    self.assertIn(alias.name, defined, path)

    def test_no_two_files_import_each_other(self):
        goals = {path.stem: {node.module.split(".")[1] for node in self.imports(tree)} for path, tree in TREES.items()}
        self.assertEqual(goals["__init__"], set())
        while goals:
            free = [stem for stem in goals if not goals[stem] & set(goals)]
            self.assertTrue(free, goals)
            goals = {stem: goals[stem] for stem in goals if stem not in free}

    def test_module_level(self):
        for path, tree in TREES.items():
            for node in tree.body:
                docstring = isinstance(node, ast.Expr) and isinstance(node.value, ast.Constant)
                kinds = (ast.ImportFrom, ast.FunctionDef, ast.ClassDef, ast.Assign)
                self.assertTrue(docstring or isinstance(node, kinds), (path, node.lineno))


class NamesTest(unittest.TestCase):
    def test_plain_names(self):
        for path, tree in TREES.items():
            for name in bound_names(tree):
                if name not in DOUBLE:
                    self.assertRegex(name, r"^[A-Za-z][A-Za-z0-9_]*$", path)
                    self.assertNotIn(name, NAMES_BARRED, path)

    def test_names_keep_their_meaning(self):
        for path, tree in TREES.items():
            for name in inner_names(tree):
                self.assertFalse(hasattr(builtins, name), (path, name))
                self.assertNotIn(name, top_names(tree), path)

    def test_only_known_builtins(self):
        for path, tree in TREES.items():
            own = set(bound_names(tree))
            for node in ast.walk(tree):
                if isinstance(node, ast.Name) and node.id not in own:
                    self.assertIn(node.id, BUILTINS, (path, node.lineno))

    def test_methods_and_attributes(self):
        methods, attributes = class_names()
        self.assertEqual(methods & attributes, set())
        for path, tree in TREES.items():
            for node in ast.walk(tree):
                if isinstance(node, ast.Attribute):
                    self.assertIn(node.attr, methods | attributes | METHODS, (path, node.lineno))


class SyntaxTest(unittest.TestCase):
    def test_no_barred_statements_or_values(self):
        # Generator expressions are let in a few places only; this package does without them.
        barred = (ast.Global, ast.AsyncFunctionDef, ast.Await, ast.AnnAssign, ast.GeneratorExp, ast.Set, ast.Div)
        for path, tree in TREES.items():
            for node in ast.walk(tree):
                self.assertNotIsInstance(node, barred, (path, getattr(node, "lineno", None)))
                if isinstance(node, ast.Constant):
                    self.assertIn(type(node.value), (int, str, bool, type(None)), path)
                    self.assertNotIn("%", str(node.value), path)

    def test_is_only_of_none_true_false(self):
        for path, tree in TREES.items():
            for node in ast.walk(tree):
                if isinstance(node, ast.Compare) and any(isinstance(sign, (ast.Is, ast.IsNot)) for sign in node.ops):
                    self.assertIsInstance(node.comparators[0], ast.Constant, (path, node.lineno))

    def test_no_decorators_and_known_double_underscores(self):
        for path, tree in TREES.items():
            for node in ast.walk(tree):
                if isinstance(node, (ast.FunctionDef, ast.ClassDef)):
                    self.assertEqual(node.decorator_list, [], (path, node.name))
                    if node.name.startswith("__"):
                        self.assertIn(node.name, DOUBLE, path)

    def test_double_underscore_methods_assign_nothing(self):
        for path, tree in TREES.items():
            for node in ast.walk(tree):
                if isinstance(node, ast.FunctionDef) and node.name in DOUBLE - {"__init__"}:
                    self.assertEqual([type(each) for each in node.body], [ast.Return], (path, node.name))
                    told = node.body[0].value
                    if node.name == "__len__":
                        self.assertEqual(ast.unparse(told)[:4], "len(", path)
                    if node.name == "__repr__":
                        self.assertIsInstance(told, ast.JoinedStr, path)

    def test_ranges_and_the_like_are_gone_over_at_once(self):
        for path, tree in TREES.items():
            for node in ast.walk(tree):
                if isinstance(node, (ast.Assign, ast.Return)) and isinstance(node.value, ast.Call):
                    called = node.value.func
                    name = called.id if isinstance(called, ast.Name) else called.attr
                    self.assertNotIn(name, AT_ONCE, (path, node.lineno))

    def test_what_is_gone_over_is_not_changed(self):
        for path, tree in TREES.items():
            for node in ast.walk(tree):
                if isinstance(node, ast.For):
                    over = gone_over(node.iter)
                    for each in ast.walk(ast.Module(node.body, [])):
                        if isinstance(each, ast.Subscript) and not isinstance(each.ctx, ast.Load):
                            self.assertNotIn(ast.unparse(each.value), over, (path, node.lineno))
                        if isinstance(each, ast.Call) and isinstance(each.func, ast.Attribute):
                            if each.func.attr in CHANGES:
                                self.assertNotIn(ast.unparse(each.func.value), over, (path, node.lineno))

    def test_defaults_are_plain(self):
        for path, tree in TREES.items():
            for node in ast.walk(tree):
                if isinstance(node, ast.arguments):
                    for told in node.defaults + [each for each in node.kw_defaults if each is not None]:
                        self.assertIsInstance(told, (ast.Constant, ast.Name, ast.Tuple), (path, ast.unparse(told)))

    def test_errors_are_made_where_they_are_raised(self):
        for path, tree in TREES.items():
            for node in ast.walk(tree):
                if isinstance(node, ast.Raise) and node.exc is not None:
                    self.assertIsInstance(node.exc, ast.Call, (path, node.lineno))


if __name__ == "__main__":
    unittest.main()
