"""The package keeps to the part of Python that LANGUAGE.md tells, as far as a walk over its files can see."""

import ast
import pathlib
import re
import unittest

PACKAGE = pathlib.Path(__file__).resolve().parent.parent / "fewboxesdesk"
FILES = sorted(PACKAGE.rglob("*.py"))

STATEMENTS = (ast.Assign, ast.AugAssign, ast.If, ast.While, ast.For, ast.Return, ast.Break, ast.Continue, ast.Pass,
              ast.Raise, ast.Try, ast.Expr, ast.FunctionDef, ast.ClassDef, ast.ImportFrom)
EXPRESSIONS = (ast.Constant, ast.Name, ast.List, ast.Tuple, ast.Dict, ast.Set, ast.BinOp, ast.UnaryOp, ast.BoolOp,
               ast.Compare, ast.IfExp, ast.Call, ast.Attribute, ast.Subscript, ast.Slice, ast.ListComp, ast.Lambda,
               ast.JoinedStr, ast.FormattedValue)
OPERATORS = (ast.Add, ast.Sub, ast.Mult, ast.FloorDiv, ast.Mod, ast.Pow, ast.BitAnd, ast.BitOr, ast.BitXor,
             ast.LShift, ast.RShift, ast.Not, ast.USub, ast.UAdd, ast.Invert, ast.And, ast.Or)
BUILTINS = set("""len range enumerate zip min max sum abs sorted reversed int str bool list tuple dict set frozenset
    isinstance ord repr any all divmod Exception ValueError TypeError KeyError IndexError LookupError ZeroDivisionError
    ArithmeticError OverflowError RuntimeError NotImplementedError AttributeError StopIteration""".split())
METHODS = set("""append clear copy count endswith extend find get index insert isalnum isalpha isdigit islower isspace
    isupper items join keys ljust lower lstrip partition pop remove replace reverse rfind rjust rpartition rsplit rstrip
    setdefault split splitlines startswith strip update upper values zfill bit_length""".split())
WORDS = set("""type typing typing_extensions enum Enum IntEnum StrEnum Flag IntFlag Generic Protocol ABC ABCMeta
    namedtuple NamedTuple TypedDict TYPE_CHECKING abstractmethod register mro elements open input version_info
    with_traceback add_note eval exec getattr setattr hasattr globals locals vars dir id super""".split())


def nodes(path, *kinds):
    return [node for node in ast.walk(ast.parse(path.read_text("utf-8"))) if isinstance(node, kinds)]


def bound(path):
    """Every name that the file binds: functions, classes, parameters, locals."""
    names = [node.name for node in nodes(path, ast.FunctionDef, ast.ClassDef)]
    names += [node.arg for node in nodes(path, ast.arg)]
    return names + [node.id for node in nodes(path, ast.Name) if isinstance(node.ctx, ast.Store)]


class Language(unittest.TestCase):
    def each(self):
        for path in FILES:
            with self.subTest(file=path.name):
                yield path

    def test_only_plain_files_lie_in_the_package(self):
        lying = [path for path in PACKAGE.rglob("*") if "__pycache__" not in path.parts]
        self.assertIn(PACKAGE / "__init__.py", lying)
        for path in lying:
            self.assertRegex(path.name, r"^(__init__|[a-z][a-z0-9_]*)\.py$")
            self.assertFalse(re.match(r"tests?(ing|_.*)?\.py$|conftest|site", path.name))

    def test_sizes_and_signs(self):
        for path in self.each():
            text = path.read_bytes()
            self.assertEqual({sign for sign in text if not (32 <= sign <= 126 or sign == 10)}, set())
            lines = text.decode().splitlines()
            self.assertLessEqual(len(lines), 399)
            self.assertLessEqual(max(map(len, lines)), 120)
            for function in nodes(path, ast.FunctionDef):
                self.assertLessEqual(function.end_lineno - function.lineno + 1, 40, function.name)

    def test_words_that_stand_nowhere(self):
        for path in self.each():
            text = path.read_text("utf-8")
            self.assertEqual(set(re.findall(r"\w+", text)) & WORDS, set())
            self.assertIsNone(re.search("dataclass|overload|contextmanager", text))

    def test_statements_and_expressions(self):
        for path in self.each():
            for node in nodes(path, ast.stmt):
                self.assertIsInstance(node, STATEMENTS, ast.dump(node))
            for node in nodes(path, ast.expr):
                self.assertIsInstance(node, EXPRESSIONS, ast.dump(node))
            for node in nodes(path, ast.operator, ast.unaryop, ast.boolop):
                self.assertIsInstance(node, OPERATORS, ast.dump(node))
            for node in nodes(path, ast.Constant):
                self.assertIsInstance(node.value, (int, str, bool, None.__class__))
            for node in nodes(path, ast.Assign):
                self.assertEqual(len(node.targets), 1)
            for node in nodes(path, ast.For, ast.While):
                self.assertEqual(node.orelse, [])
            for node in nodes(path, ast.ListComp):
                self.assertEqual(len(node.generators), 1)
                self.assertLessEqual(len(node.generators[0].ifs), 1)
            for node in nodes(path, ast.Expr):
                docstring = node.lineno == 1 and isinstance(node.value, ast.Constant)
                self.assertTrue(docstring or isinstance(node.value, ast.Call), ast.dump(node))

    def test_functions_and_classes(self):
        for path in self.each():
            for node in nodes(path, ast.FunctionDef, ast.Lambda):
                given = node.args
                self.assertEqual((given.vararg, given.kwarg, given.kwonlyargs, given.posonlyargs), (None, None, [], []))
            for node in nodes(path, ast.FunctionDef, ast.ClassDef):
                self.assertEqual(node.decorator_list, [])
            for node in nodes(path, ast.ClassDef):
                self.assertTrue(all(isinstance(part, ast.FunctionDef) for part in node.body))

    def test_imports_are_the_packages_own(self):
        for path in self.each():
            for node in nodes(path, ast.ImportFrom):
                self.assertEqual((node.level, node.module.split(".")[0]), (0, "fewboxesdesk"))

    def test_names(self):
        own = set(dir(__builtins__) if not isinstance(__builtins__, dict) else __builtins__)
        for path in self.each():
            names = bound(path)
            for name in names:
                self.assertRegex(name, r"^([A-Za-z][A-Za-z0-9_]*|__init__)$")
                self.assertNotIn(name, own)
            loaded = {node.id for node in nodes(path, ast.Name) if isinstance(node.ctx, ast.Load)}
            imported = {alias.name for node in nodes(path, ast.ImportFrom) for alias in node.names}
            self.assertEqual(loaded - set(names) - imported - BUILTINS, set())

    def test_methods(self):
        methods = {name for path in FILES for name in bound(path)} | METHODS
        for path in self.each():
            for call in nodes(path, ast.Call):
                if isinstance(call.func, ast.Attribute):
                    self.assertIn(call.func.attr, methods)

    def test_the_interface_is_a_plain_function_in_its_file(self):
        found = [(path.name, node) for path in FILES for node in nodes(path, ast.FunctionDef) if node.name == "answers"]
        self.assertEqual([name for name, node in found], ["shelf.py"])
        self.assertEqual([arg.arg for arg in found[0][1].args.args], ["calls"])
        self.assertEqual(found[0][1].args.defaults, [])


if __name__ == "__main__":
    unittest.main()
