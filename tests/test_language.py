"""The package keeps to the part of Python that it's to be written in, as far as that is plain to see."""

import ast
import builtins
import pathlib
import re
import unittest

PACKAGE = pathlib.Path(__file__).resolve().parent.parent / "sparedisk"
NAMES = set("""len range enumerate zip min max sum abs sorted reversed int str bool list tuple dict set frozenset
    isinstance ord repr any all divmod Exception ValueError TypeError KeyError IndexError LookupError ZeroDivisionError
    ArithmeticError OverflowError RuntimeError NotImplementedError AttributeError StopIteration""".split())
METHODS = set("""append clear copy count endswith extend find get index insert isalnum isalpha isdigit islower isspace
    isupper items join keys ljust lower lstrip partition pop remove replace reverse rfind rjust rpartition rsplit
    rstrip setdefault split splitlines startswith strip update upper values zfill bit_length""".split())
UNUSED = set("""register mro elements open input version_info with_traceback add_note attrgetter breakpoint builtins
    compile copyright credits delattr dir eval exec exit gc getattr globals hasattr help id importlib license locals
    methodcaller os quit setattr super type vars sys typing typing_extensions enum Enum IntEnum StrEnum Flag IntFlag
    Generic Protocol ABC ABCMeta namedtuple NamedTuple TypedDict TYPE_CHECKING abstractmethod""".split())
SYNTAX = (
    ast.Module, ast.Expr, ast.Constant, ast.ImportFrom, ast.alias, ast.FunctionDef, ast.arguments, ast.arg,
    ast.ClassDef, ast.Assign, ast.If, ast.While, ast.For, ast.Return, ast.Break, ast.Continue, ast.Pass, ast.Raise,
    ast.Try, ast.ExceptHandler, ast.Name, ast.Attribute, ast.Subscript, ast.Slice, ast.Call, ast.keyword, ast.List,
    ast.Tuple, ast.Dict, ast.Set, ast.ListComp, ast.comprehension, ast.BinOp, ast.UnaryOp, ast.BoolOp, ast.Compare,
    ast.IfExp, ast.Lambda, ast.JoinedStr, ast.FormattedValue, ast.expr_context, ast.boolop, ast.operator, ast.unaryop,
    ast.cmpop,
)


def own_names(value):
    return set(dir(value))


OF_PYTHON = set().union(*[own_names(value) for value in ("", 0, [], (), {}, set(), b"")])


class LanguageTest(unittest.TestCase):
    def setUp(self):
        self.files = {path.name: path.read_text("ascii") for path in PACKAGE.glob("*.py")}
        self.trees = {name: ast.parse(text) for name, text in self.files.items()}

    def nodes(self, kinds):
        return [(name, node) for name, tree in self.trees.items() for node in ast.walk(tree) if isinstance(node, kinds)]

    def test_files(self):
        others = [path.name for path in PACKAGE.iterdir() if path.suffix != ".py" and path.name != "__pycache__"]
        self.assertEqual(others, [])
        for name, text in self.files.items():
            self.assertRegex(name, r"^([a-z][a-z0-9_]*|__init__)\.py$")
            self.assertNotIn(name[:-3], dir(builtins))
            self.assertRegex(text, r"^[ -~\n]*$")
            self.assertLessEqual(len(text.splitlines()), 399, name)
            self.assertLessEqual(max(len(line) for line in text.splitlines()), 120, name)

    def test_syntax(self):
        for name, tree in self.trees.items():
            for node in ast.walk(tree):
                self.assertIsInstance(node, SYNTAX, (name, getattr(node, "lineno", 0)))
        for name, node in self.nodes((ast.Div, ast.MatMult)):
            self.fail((name, node))
        for name, node in self.nodes(ast.Constant):
            self.assertNotIsInstance(node.value, (float, complex, bytes), (name, node.lineno))
        for name, node in self.nodes((ast.For, ast.While, ast.Try)):
            self.assertFalse(getattr(node, "finalbody", []) or not isinstance(node, ast.Try) and node.orelse, name)
        for name, node in self.nodes(ast.Assign):
            self.assertEqual(len(node.targets), 1, (name, node.lineno))
        for name, node in self.nodes(ast.ListComp):
            self.assertTrue(len(node.generators) == 1 and len(node.generators[0].ifs) <= 1, (name, node.lineno))

    def test_functions_and_classes(self):
        for name, node in self.nodes(ast.FunctionDef):
            self.assertLessEqual(node.end_lineno - node.lineno + 1, 40, (name, node.name))
            self.assertFalse(node.decorator_list or node.args.vararg or node.args.kwarg or node.args.kwonlyargs)
        for name, node in self.nodes(ast.ClassDef):
            self.assertFalse(node.decorator_list or node.keywords or len(node.bases) > 1, (name, node.name))
            for part in node.body:
                self.assertIsInstance(part, ast.FunctionDef, (name, node.name))

    def test_imports(self):
        drawn = {}
        for name, node in self.nodes(ast.ImportFrom):
            self.assertRegex(node.module, r"^sparedisk\.[a-z_]+$")
            file = node.module.split(".")[1] + ".py"
            drawn.setdefault(name, set()).add(file)
            defined = [part.name for part in self.trees[file].body if isinstance(part, (ast.FunctionDef, ast.ClassDef))]
            defined += [part.targets[0].id for part in self.trees[file].body if isinstance(part, ast.Assign)]
            for alias in node.names:
                self.assertIn(alias.name, defined, (name, node.lineno))
        while drawn:
            ends = [name for name in drawn if not drawn[name] & set(drawn)]
            self.assertTrue(ends, "files draw from one another")
            drawn = {name: files for name, files in drawn.items() if name not in ends}

    def test_names(self):
        for name, node in self.nodes((ast.Name, ast.arg, ast.FunctionDef, ast.ClassDef)):
            word = getattr(node, "id", None) or getattr(node, "arg", None) or node.name
            self.assertTrue(re.match("^[A-Za-z][A-Za-z0-9_]*$", word) or word == "__init__", (name, word))
            self.assertNotIn(word, UNUSED, (name, node.lineno))
            if word in dir(builtins):
                self.assertIn(word, NAMES, (name, node.lineno))
                self.assertIsInstance(node, ast.Name)
                self.assertIsInstance(node.ctx, ast.Load, (name, node.lineno))

    def test_methods_and_values(self):
        methods, values = set(), set()
        for name, node in self.nodes(ast.ClassDef):
            methods |= {part.name for part in node.body}
        for name, node in self.nodes(ast.Attribute):
            self.assertNotIn(node.attr, UNUSED | {"format", "format_map"}, (name, node.lineno))
            if node.attr in OF_PYTHON:
                self.assertIn(node.attr, METHODS, (name, node.lineno))
            if isinstance(node.ctx, ast.Store):
                values.add(node.attr)
                self.assertNotIn(node.attr, OF_PYTHON, (name, node.lineno))
        self.assertEqual(methods & values, set())
        self.assertEqual((methods - {"__init__"}) & OF_PYTHON, set())


if __name__ == "__main__":
    unittest.main()
