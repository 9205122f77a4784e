"""The package's files keep to the small part of Python that the program is written in."""

import ast
import builtins
import pathlib
import re
import unittest

PACKAGE = pathlib.Path(__file__).resolve().parent.parent / "strictvolume"
FILES = sorted(PACKAGE.glob("*.py"))

STATEMENTS = (ast.Assign, ast.If, ast.While, ast.For, ast.Return, ast.Break, ast.Continue, ast.Pass, ast.Raise,
              ast.Try, ast.ExceptHandler, ast.Expr, ast.FunctionDef, ast.ClassDef, ast.ImportFrom, ast.Module)
EXPRESSIONS = (ast.Constant, ast.List, ast.Tuple, ast.Dict, ast.BinOp, ast.UnaryOp, ast.BoolOp, ast.Compare, ast.IfExp,
               ast.Call, ast.Attribute, ast.Subscript, ast.Slice, ast.ListComp, ast.comprehension, ast.Name,
               ast.JoinedStr, ast.FormattedValue, ast.Lambda, ast.keyword, ast.arguments, ast.arg, ast.alias,
               ast.expr_context, ast.operator, ast.unaryop, ast.boolop, ast.cmpop)
NOT_USED = (ast.Div, ast.MatMult)
OWN_NAMES = set("""len range enumerate zip min max sum abs sorted reversed int str bool list tuple dict set frozenset
isinstance ord repr any all divmod Exception ValueError TypeError KeyError IndexError LookupError ZeroDivisionError
ArithmeticError OverflowError RuntimeError NotImplementedError AttributeError StopIteration""".split())
METHODS = set("""append clear copy count endswith extend find get index insert isalnum isalpha isdigit islower isspace
isupper items join keys ljust lower lstrip partition pop remove replace reverse rfind rjust rpartition rsplit rstrip
setdefault split splitlines startswith strip update upper values zfill bit_length""".split())
WORDS = set("""type typing typing_extensions enum Enum IntEnum StrEnum Flag IntFlag Generic Protocol ABC ABCMeta
namedtuple NamedTuple TypedDict TYPE_CHECKING abstractmethod""".split())
INNER_WORDS = ("dataclass", "overload", "contextmanager")
NAMES_NOT_USED = set("""register mro elements open input version_info with_traceback add_note attrgetter breakpoint
builtins compile copyright credits delattr dir eval exec exit gc getattr globals hasattr help id importlib license
locals methodcaller os quit setattr super type vars sys format format_map chr""".split())
VALUES_NOT_USED = set(dir(str) + dir(int) + dir(list) + dir(dict) + dir(set) + dir(bytes)) - set(
    "count index title find get join lower upper split strip copy add".split())


def tree_of(path):
    return ast.parse(path.read_text(encoding="utf-8"))


def bound_names(tree):
    """Every name that is given a meaning, with how it is given."""
    for each in ast.walk(tree):
        if isinstance(each, ast.Name) and isinstance(each.ctx, ast.Store):
            yield each.id
        elif isinstance(each, ast.arg):
            yield each.arg
        elif isinstance(each, ast.ExceptHandler) and each.name:
            yield each.name


def top_names(tree):
    names = []
    for each in tree.body:
        if isinstance(each, (ast.FunctionDef, ast.ClassDef)):
            names.append(each.name)
        elif isinstance(each, ast.Assign):
            names.append(each.targets[0].id)
        elif isinstance(each, ast.ImportFrom):
            names.extend(alias.name for alias in each.names)
    return names


def defined_names(tree):
    imported = [alias.name for each in tree.body if isinstance(each, ast.ImportFrom) for alias in each.names]
    return [name for name in top_names(tree) if name not in imported]


def draws(tree):
    return [each.module.split(".")[1] for each in tree.body if isinstance(each, ast.ImportFrom)]


class Language(unittest.TestCase):
    def each_tree(self):
        for path in FILES:
            with self.subTest(file=path.name):
                yield path, tree_of(path)

    def test_files(self):
        inside = [path.name for path in PACKAGE.iterdir() if path.name != "__pycache__"]
        self.assertEqual(sorted(inside), [path.name for path in FILES])
        self.assertIn("__init__.py", inside)
        for name in inside:
            self.assertRegex(name, r"^(__init__|[a-z][a-z0-9_]*)\.py$")
            self.assertNotIn(name[:-3], dir(builtins))

    def test_signs_and_sizes(self):
        for path in FILES:
            text = path.read_text(encoding="utf-8")
            rows = text.split("\n")
            self.assertRegex(text, r"\A[ -~\n]*\Z", path.name)
            self.assertLessEqual(len(rows), 400, path.name)
            self.assertLessEqual(max(len(row) for row in rows), 120, path.name)

    def test_words(self):
        for path in FILES:
            text = path.read_text(encoding="utf-8")
            self.assertEqual(WORDS & set(re.findall(r"\w+", text)), set(), path.name)
            self.assertFalse([word for word in INNER_WORDS if word in text], path.name)

    def test_functions_are_short(self):
        for path, tree in self.each_tree():
            for each in ast.walk(tree):
                if isinstance(each, ast.FunctionDef):
                    self.assertLessEqual(each.end_lineno - each.lineno + 1, 40, each.name)
                    self.assertFalse(each.decorator_list)
                    self.assertIsNone(each.returns)
                    self.assertFalse(each.args.vararg or each.args.kwarg or each.args.kwonlyargs)
                    self.assertFalse(each.args.posonlyargs)
                if isinstance(each, ast.arg):
                    self.assertIsNone(each.annotation)

    def test_forms(self):
        for path, tree in self.each_tree():
            for each in ast.walk(tree):
                self.assertIsInstance(each, STATEMENTS + EXPRESSIONS)
                self.assertNotIsInstance(each, NOT_USED)
                if isinstance(each, ast.Assign):
                    self.assertEqual(len(each.targets), 1)
                    self.assertNotIsInstance(each.targets[0], (ast.Tuple, ast.List))
                if isinstance(each, (ast.For, ast.While)):
                    self.assertFalse(each.orelse)
                if isinstance(each, ast.Try):
                    self.assertFalse(each.finalbody)
                if isinstance(each, ast.BinOp) and isinstance(each.op, ast.Pow):
                    self.assertIsInstance(each.right, ast.Constant)
                if isinstance(each, ast.Constant):
                    self.assertIsInstance(each.value, (int, str, bool, type(None)))
                    self.assertNotIn("%", str(each.value))
                if isinstance(each, ast.Compare) and isinstance(each.ops[0], (ast.Is, ast.IsNot)):
                    self.assertIn(each.comparators[0].value, (None, True, False))

    def test_top_of_a_file(self):
        for path, tree in self.each_tree():
            self.assertIsNotNone(ast.get_docstring(tree))
            for each in tree.body[1:]:
                self.assertIsInstance(each, (ast.FunctionDef, ast.ClassDef, ast.ImportFrom, ast.Assign))
                if isinstance(each, ast.Assign):
                    ast.literal_eval(each.value)
            names = top_names(tree)
            self.assertEqual(len(names), len(set(names)))

    def test_imports(self):
        defined = {path.stem: defined_names(tree_of(path)) for path in FILES}
        for path, tree in self.each_tree():
            for each in ast.walk(tree):
                if isinstance(each, ast.ImportFrom):
                    self.assertIn(each, tree.body)
                    self.assertEqual(each.level, 0)
                    package, name = each.module.split(".")
                    self.assertEqual(package, "strictvolume")
                    for alias in each.names:
                        self.assertIsNone(alias.asname)
                        self.assertIn(alias.name, defined[name])

    def test_no_two_files_draw_from_one_another(self):
        drawn = {path.stem: draws(tree_of(path)) for path in FILES}
        left = dict(drawn)
        while left:
            free = [name for name in left if not any(each in left for each in left[name])]
            self.assertTrue(free, left)
            for name in free:
                del left[name]

    def test_names(self):
        for path, tree in self.each_tree():
            tops = set(top_names(tree))
            for name in bound_names(tree):
                self.assertRegex(name, r"^[A-Za-z][A-Za-z0-9_]*$")
                self.assertNotIn(name, dir(builtins))
            inner = [name for each in tree.body if isinstance(each, (ast.FunctionDef, ast.ClassDef))
                     for name in bound_names(each)]
            self.assertEqual(tops & set(inner), set())
            for each in ast.walk(tree):
                if isinstance(each, ast.Name):
                    self.assertNotIn(each.id, NAMES_NOT_USED)
                    if each.id in dir(builtins):
                        self.assertIn(each.id, OWN_NAMES)

    def test_methods_and_values(self):
        methods = set()
        values = set()
        for path in FILES:
            for each in ast.walk(tree_of(path)):
                if isinstance(each, ast.ClassDef):
                    self.assertLessEqual(len(each.bases), 1)
                    for inner in each.body:
                        self.assertIsInstance(inner, (ast.FunctionDef, ast.Pass))
                    methods |= {inner.name for inner in each.body if isinstance(inner, ast.FunctionDef)}
                if isinstance(each, ast.Attribute) and isinstance(each.ctx, ast.Store):
                    values.add(each.attr)
        self.assertEqual(methods & values, set())
        self.assertEqual((methods - {"__init__"}) & VALUES_NOT_USED, set())
        self.assertEqual(values & VALUES_NOT_USED, set())
        for path, tree in self.each_tree():
            for each in ast.walk(tree):
                if isinstance(each, ast.Attribute):
                    self.assertIn(each.attr, methods | values | METHODS)
                    self.assertNotIn(each.attr, NAMES_NOT_USED)


class Interface(unittest.TestCase):
    def test_arguments(self):
        functions = {each.name: [arg.arg for arg in each.args.args]
                     for each in tree_of(PACKAGE / "volumes.py").body if isinstance(each, ast.FunctionDef)}
        self.assertEqual(functions["list_of"], ["most", "image", "path"])
        self.assertEqual(functions["file"], ["start", "most", "image", "path"])


if __name__ == "__main__":
    unittest.main()
