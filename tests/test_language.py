"""The package keeps to its part of Python, as far as that can be seen in the files."""

import ast
import builtins
import pathlib
import re
import unittest

PACKAGE = pathlib.Path(__file__).resolve().parent.parent / "pilothall"
FILES = sorted(path for path in PACKAGE.iterdir() if path.name != "__pycache__")

OWN_NAMES = set("""len range enumerate zip min max sum abs sorted reversed int str bool list tuple dict set frozenset
    isinstance ord repr any all divmod Exception ValueError TypeError KeyError IndexError LookupError ZeroDivisionError
    ArithmeticError OverflowError RuntimeError NotImplementedError AttributeError StopIteration""".split())
OWN_METHODS = set("""append clear copy count endswith extend find get index insert isalnum isalpha isdigit islower isspace
    isupper items join keys ljust lower lstrip partition pop remove replace reverse rfind rjust rpartition rsplit rstrip
    setdefault split splitlines startswith strip update upper values zfill bit_length""".split())
UNUSED_NAMES = set("""register mro elements open input version_info with_traceback add_note attrgetter breakpoint builtins
    compile copyright credits delattr dir eval exec exit gc getattr globals hasattr help id importlib license locals
    methodcaller os quit setattr super type vars sys""".split())
UNUSED_WORDS = re.compile(
    r"\b(type|typing|typing_extensions|enum|Enum|IntEnum|StrEnum|Flag|IntFlag|Generic|Protocol|ABC|ABCMeta|namedtuple|"
    r"NamedTuple|TypedDict|TYPE_CHECKING|abstractmethod)\b|dataclass|overload|contextmanager")
STATEMENTS = (ast.Assign, ast.AugAssign, ast.If, ast.While, ast.For, ast.Return, ast.Break, ast.Continue, ast.Pass,
              ast.Raise, ast.Try, ast.Expr, ast.FunctionDef)
EXPRESSIONS = (ast.Constant, ast.List, ast.Tuple, ast.Dict, ast.BinOp, ast.UnaryOp, ast.BoolOp, ast.Compare, ast.IfExp,
               ast.Call, ast.Attribute, ast.Subscript, ast.Slice, ast.ListComp, ast.JoinedStr, ast.FormattedValue,
               ast.Lambda, ast.Name)
VALUE_KINDS = (str, bytes, int, list, dict, set, frozenset, tuple)
CHANGES = set("append clear extend insert pop remove reverse setdefault update".split())


def tree_of(path):
    return ast.parse(path.read_text(encoding="utf-8"))


def walk(kind):
    """Each node of that kind in the package, with its file's name."""
    return [(path.name, node) for path in FILES for node in ast.walk(tree_of(path)) if isinstance(node, kind)]


def bound_names(function):
    names = [argument.arg for argument in function.args.args]
    for node in ast.walk(function):
        if isinstance(node, ast.Name) and isinstance(node.ctx, ast.Store):
            names.append(node.id)
        if isinstance(node, ast.ExceptHandler) and node.name:
            names.append(node.name)
    return names


def top_names(tree):
    names = []
    for node in tree.body:
        if isinstance(node, (ast.FunctionDef, ast.ClassDef)):
            names.append(node.name)
        if isinstance(node, ast.Assign):
            names.extend(target.id for target in node.targets)
    return names


def is_plain(node):
    if isinstance(node, (ast.List, ast.Tuple)):
        return all(is_plain(part) for part in node.elts)
    if isinstance(node, ast.Dict):
        return all(is_plain(part) for part in node.keys + node.values)
    if isinstance(node, ast.UnaryOp):
        return isinstance(node.op, ast.USub) and is_plain(node.operand)
    return isinstance(node, ast.Constant)


def is_docstring(node):
    return isinstance(node, ast.Expr) and isinstance(node.value, ast.Constant) and isinstance(node.value.value, str)


class Files(unittest.TestCase):
    def test_files_lines_signs(self):
        for path in FILES:
            with self.subTest(path=path.name):
                self.assertRegex(path.name, r"^[a-z0-9_]+\.py$")
                self.assertFalse(path.stem != "__init__" and hasattr(builtins, path.stem))
                text = path.read_text(encoding="utf-8")
                self.assertEqual([sign for sign in text if sign != "\n" and not " " <= sign <= "~"], [])
                self.assertLessEqual(len(text.splitlines()), 400)
                self.assertLessEqual(max(map(len, text.splitlines())), 120)
                self.assertIsNone(UNUSED_WORDS.search(text))

    def test_functions_are_short(self):
        for name, node in walk(ast.FunctionDef):
            self.assertLessEqual(node.end_lineno - node.lineno + 1, 40, (name, node.name))

    def test_the_top_of_a_file(self):
        for path in FILES:
            tree = tree_of(path)
            for node in tree.body:
                with self.subTest(path=path.name, line=node.lineno):
                    if isinstance(node, ast.Assign):
                        self.assertTrue(len(node.targets) == 1 and is_plain(node.value))
                    else:
                        allowed = isinstance(node, (ast.ImportFrom, ast.FunctionDef, ast.ClassDef)) or is_docstring(node)
                        self.assertTrue(allowed)
            self.assertEqual(len(top_names(tree)), len(set(top_names(tree))), path.name)

    def test_imports(self):
        drawn = {}
        for path in FILES:
            drawn[path.stem] = []
            for node in [node for node in ast.walk(tree_of(path)) if isinstance(node, (ast.Import, ast.ImportFrom))]:
                self.assertIsInstance(node, ast.ImportFrom)
                self.assertEqual(node.level, 0)
                package, stem = node.module.split(".")
                self.assertEqual(package, "pilothall")
                for alias in node.names:
                    self.assertIn(alias.name, top_names(tree_of(PACKAGE / (stem + ".py"))))
                    self.assertIsNone(alias.asname)
                drawn[path.stem].append(stem)
        while drawn:
            free = [stem for stem in drawn if not any(other in drawn for other in drawn[stem])]
            self.assertTrue(free, "files draw from one another")
            drawn = {stem: others for stem, others in drawn.items() if stem not in free}


class Forms(unittest.TestCase):
    def test_statements_and_expressions(self):
        for path in FILES:
            for node in ast.walk(tree_of(path)):
                with self.subTest(path=path.name, line=getattr(node, "lineno", 0)):
                    if isinstance(node, ast.stmt):
                        self.assertIsInstance(node, STATEMENTS + (ast.ImportFrom, ast.ClassDef))
                    if isinstance(node, ast.expr):
                        self.assertIsInstance(node, EXPRESSIONS)
                    if isinstance(node, (ast.For, ast.While, ast.Try)):
                        self.assertFalse(isinstance(node, (ast.For, ast.While)) and node.orelse)
                        self.assertFalse(getattr(node, "finalbody", []))
                    if isinstance(node, ast.Assign):
                        self.assertEqual(len(node.targets), 1)
                        self.assertNotIsInstance(node.targets[0], (ast.Tuple, ast.List))
                    if isinstance(node, ast.BinOp):
                        self.assertNotIsInstance(node.op, (ast.Div, ast.MatMult, ast.Pow))
                    if isinstance(node, ast.ListComp):
                        self.assertTrue(len(node.generators) == 1 and len(node.generators[0].ifs) <= 1)
                    if isinstance(node, ast.Expr):
                        self.assertTrue(is_docstring(node) or isinstance(node.value, ast.Call))

    def test_constants(self):
        for name, node in walk(ast.Constant):
            self.assertIn(type(node.value), (int, str, bool, type(None)), name)
            if isinstance(node.value, str):
                self.assertNotIn("%", node.value, name)

    def test_is_stands_beside_none_alone(self):
        for name, node in walk(ast.Compare):
            for op, right in zip(node.ops, node.comparators):
                if isinstance(op, (ast.Is, ast.IsNot)):
                    self.assertIn(getattr(right, "value", 0), (None, True, False), (name, node.lineno))

    def test_functions(self):
        for name, node in walk(ast.FunctionDef):
            arguments = node.args
            self.assertFalse(arguments.vararg or arguments.kwarg or arguments.kwonlyargs or arguments.posonlyargs, name)
            self.assertFalse(node.decorator_list or node.returns, name)

    def test_classes(self):
        for name, node in walk(ast.ClassDef):
            self.assertLessEqual(len(node.bases), 1)
            self.assertFalse(node.decorator_list or node.keywords)
            for part in node.body:
                self.assertTrue(isinstance(part, ast.FunctionDef) or is_docstring(part), (name, part.lineno))

    def test_handlers_take_the_programs_own_errors(self):
        own = [node.name for name, node in walk(ast.ClassDef)]
        for name, node in walk(ast.ExceptHandler):
            self.assertIn(getattr(node.type, "id", None), own + ["KeyError", "ZeroDivisionError", "StopIteration"], name)


class Names(unittest.TestCase):
    def test_every_name(self):
        for path in FILES:
            tree = tree_of(path)
            imports = [alias.name for node in tree.body if isinstance(node, ast.ImportFrom) for alias in node.names]
            known = set(top_names(tree) + imports)
            for node in [node for node in tree.body if isinstance(node, (ast.FunctionDef, ast.ClassDef))]:
                functions = [part for part in ast.walk(node) if isinstance(part, (ast.FunctionDef, ast.Lambda))]
                bound = [name for function in functions for name in bound_names(function)]
                for name in bound:
                    self.assertRegex(name, r"^[A-Za-z][A-Za-z0-9_]*$", path.name)
                    self.assertFalse(hasattr(builtins, name) or name in known, (path.name, name))
                for part in [part for part in ast.walk(node) if isinstance(part, ast.Name)]:
                    self.assertNotIn(part.id, UNUSED_NAMES, path.name)
                    allowed = part.id in known or part.id in bound or part.id in OWN_NAMES
                    self.assertTrue(allowed, (path.name, part.lineno, part.id))

    def test_methods_and_values(self):
        methods = {part.name for name, node in walk(ast.ClassDef) for part in node.body if isinstance(part, ast.FunctionDef)}
        values = {node.attr for name, node in walk(ast.Attribute) if isinstance(node.ctx, ast.Store)}
        self.assertEqual(methods & values, set())
        for name in (methods | values) - {"__init__"}:
            self.assertRegex(name, r"^[a-z][a-z0-9_]*$")
            self.assertFalse(any(hasattr(kind, name) for kind in VALUE_KINDS), name)
        for name, node in walk(ast.Attribute):
            self.assertIn(node.attr, methods | values | OWN_METHODS, (name, node.lineno))

    def test_methods_are_called_where_they_stand(self):
        methods = {part.name for name, node in walk(ast.ClassDef) for part in node.body if isinstance(part, ast.FunctionDef)}
        for path in FILES:
            nodes = list(ast.walk(tree_of(path)))
            called = [node.func for node in nodes if isinstance(node, ast.Call)]
            for node in [node for node in nodes if isinstance(node, ast.Attribute)]:
                if node.attr in methods | OWN_METHODS:
                    self.assertIn(node, called, (path.name, node.attr, node.lineno))

    def test_what_is_walked_is_not_changed(self):
        for name, loop in walk(ast.For):
            walked = {ast.dump(node) for node in ast.walk(loop.iter) if isinstance(node, (ast.Name, ast.Attribute))}
            for node in [node for part in loop.body for node in ast.walk(part)]:
                if isinstance(node, ast.Attribute) and node.attr in CHANGES:
                    self.assertNotIn(ast.dump(node.value), walked, (name, node.lineno))

    def test_keywords(self):
        for name, node in walk(ast.Call):
            for keyword in node.keywords:
                allowed = {"sorted": ("key", "reverse"), "min": ("key", "default"), "max": ("key", "default"),
                           "sum": ("start",), "enumerate": ("start",), "zip": ("strict",)}
                self.assertIn(keyword.arg, allowed.get(getattr(node.func, "id", ""), ()), (name, node.lineno))


if __name__ == "__main__":
    unittest.main()
