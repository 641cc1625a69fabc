"""What of ../shared/LANGUAGE.md can be seen from a file's text and its syntax tree."""

import ast
import builtins
import re
import unittest
from pathlib import Path

PACKAGE = Path(__file__).resolve().parent.parent / "sharedspins"

STATEMENTS = (ast.Assign, ast.AugAssign, ast.If, ast.While, ast.For, ast.Return, ast.Break, ast.Continue, ast.Pass,
              ast.Raise, ast.Try, ast.Expr, ast.FunctionDef, ast.ClassDef, ast.ImportFrom)
EXPRESSIONS = (ast.Constant, ast.Name, ast.List, ast.Tuple, ast.Dict, ast.BinOp, ast.UnaryOp, ast.BoolOp, ast.Compare,
               ast.IfExp, ast.Call, ast.Attribute, ast.Subscript, ast.Slice, ast.ListComp, ast.Lambda, ast.JoinedStr,
               ast.FormattedValue)
BUILTINS = """len range enumerate zip min max sum abs sorted reversed int str bool list tuple dict set frozenset isinstance
    ord repr any all divmod Exception ValueError TypeError KeyError IndexError LookupError ZeroDivisionError
    ArithmeticError OverflowError RuntimeError NotImplementedError AttributeError StopIteration""".split()
METHODS = """append clear copy count endswith extend find get index insert isalnum isalpha isdigit islower isspace isupper
    items join keys ljust lower lstrip partition pop remove replace reverse rfind rjust rpartition rsplit rstrip
    setdefault split splitlines startswith strip update upper values zfill bit_length""".split()
WORDS_NOWHERE = """type typing typing_extensions enum Enum IntEnum StrEnum Flag IntFlag Generic Protocol ABC ABCMeta
    namedtuple NamedTuple TypedDict TYPE_CHECKING abstractmethod""".split()
WITHIN_WORDS = ["dataclass", "overload", "contextmanager"]
NAMES_NOWHERE = """register mro elements open input version_info with_traceback add_note attrgetter breakpoint builtins
    compile copyright credits delattr dir eval exec exit gc getattr globals hasattr help id importlib license locals
    methodcaller os quit setattr super vars sys format format_map""".split()


def files():
    return sorted(PACKAGE.rglob("*.py"))


def tree_of(path):
    return ast.parse(path.read_text(encoding="utf-8"))


def bound_names(tree):
    """Every name that is given a meaning: parameters, locals, defs, classes."""
    names = []
    for node in ast.walk(tree):
        if isinstance(node, ast.Name) and isinstance(node.ctx, ast.Store):
            names.append(node.id)
        if isinstance(node, ast.arg):
            names.append(node.arg)
        if isinstance(node, (ast.FunctionDef, ast.ClassDef)):
            names.append(node.name)
    return names


class Language(unittest.TestCase):

    def test_files(self):
        self.assertTrue((PACKAGE / "__init__.py").is_file())
        self.assertTrue((PACKAGE / "games.py").is_file())
        for path in PACKAGE.rglob("*"):
            if "__pycache__" in path.parts:
                continue
            self.assertRegex(path.name, r"^[a-z0-9_]+(\.py)?$")
            self.assertTrue(path.is_dir() or path.suffix == ".py", path)
            self.assertNotIn(path.stem, dir(builtins))

    def test_signs_and_size(self):
        for path in files():
            text = path.read_text(encoding="utf-8")
            self.assertRegex(text, r"\A[ -~\n]*\Z", path)
            rows = text.split("\n")
            self.assertLessEqual(len(rows), 399, path)
            self.assertLessEqual(max(len(row) for row in rows), 120, path)
            for node in ast.walk(ast.parse(text)):
                if isinstance(node, ast.FunctionDef):
                    self.assertLessEqual(node.end_lineno - node.lineno + 1, 40, (path, node.name))

    def test_words(self):
        for path in files():
            text = path.read_text(encoding="utf-8")
            words = re.findall(r"[A-Za-z0-9_]+", text)
            for word in WORDS_NOWHERE:
                self.assertNotIn(word, words, path)
            for part in WITHIN_WORDS:
                self.assertNotIn(part, text, path)

    def test_the_top_of_a_module(self):
        for path in files():
            body = tree_of(path).body
            self.assertIsInstance(ast.get_docstring(ast.Module(body, [])), str, path)
            for node in body[1:]:
                self.assertIsInstance(node, (ast.ImportFrom, ast.FunctionDef, ast.ClassDef, ast.Assign), path)
                if isinstance(node, ast.ImportFrom):
                    self.assertEqual(node.level, 0)
                    self.assertTrue(node.module.startswith("sharedspins."), path)
                    self.assertTrue(all(part.name != "*" and part.asname is None for part in node.names), path)
                if isinstance(node, ast.Assign):
                    ast.literal_eval(node.value)

    def test_imports_come_from_the_defining_file(self):
        for path in files():
            for node in tree_of(path).body:
                if isinstance(node, ast.ImportFrom):
                    source = PACKAGE.parent.joinpath(*node.module.split(".")).with_suffix(".py")
                    tops = [part.name for part in tree_of(source).body if hasattr(part, "name")]
                    for part in tree_of(source).body:
                        if isinstance(part, ast.Assign):
                            tops.append(part.targets[0].id)
                    for part in node.names:
                        self.assertIn(part.name, tops, path)

    def test_statements_and_expressions(self):
        for path in files():
            for node in ast.walk(tree_of(path)):
                if isinstance(node, ast.stmt):
                    self.assertIsInstance(node, STATEMENTS, (path, node.lineno))
                if isinstance(node, ast.expr):
                    self.assertIsInstance(node, EXPRESSIONS, (path, node.lineno))
                if isinstance(node, ast.Assign):
                    self.assertEqual(len(node.targets), 1, (path, node.lineno))
                if isinstance(node, (ast.For, ast.While)):
                    self.assertEqual(node.orelse, [], (path, node.lineno))
                if isinstance(node, ast.BinOp):
                    self.assertNotIsInstance(node.op, (ast.Div, ast.MatMult, ast.Pow), (path, node.lineno))
                if isinstance(node, ast.Constant):
                    self.assertIsInstance(node.value, (int, str, type(None)), (path, node.lineno))
                if isinstance(node, ast.ListComp):
                    self.assertEqual(len(node.generators), 1, (path, node.lineno))
                if isinstance(node, ast.FunctionDef):
                    self.assertEqual(node.decorator_list, [], (path, node.lineno))
                    self.assertTrue(node.args.vararg is None and node.args.kwarg is None, (path, node.lineno))
                    self.assertEqual(node.args.kwonlyargs + node.args.posonlyargs, [], (path, node.lineno))

    def test_names(self):
        for path in files():
            tree = tree_of(path)
            bound = bound_names(tree)
            imported = [part.name for node in tree.body if isinstance(node, ast.ImportFrom) for part in node.names]
            for name in bound:
                if name != "__init__":
                    self.assertRegex(name, r"^[A-Za-z][A-Za-z0-9_]*$", path)
                self.assertNotIn(name, NAMES_NOWHERE, path)
                self.assertNotIn(name, dir(builtins), path)
                self.assertNotIn(name, imported, path)
            tops = [node.name for node in tree.body if hasattr(node, "name")]
            self.assertEqual(len(tops), len(set(tops)), path)
            for node in ast.walk(tree):
                if isinstance(node, ast.Name) and node.id in dir(builtins):
                    self.assertIn(node.id, BUILTINS, (path, node.lineno))
                if isinstance(node, ast.Attribute):
                    self.assertNotIn(node.attr, NAMES_NOWHERE, (path, node.lineno))

    def test_methods(self):
        for path in files():
            for node in ast.walk(tree_of(path)):
                if isinstance(node, ast.Call) and isinstance(node.func, ast.Attribute):
                    self.assertIn(node.func.attr, METHODS, (path, node.lineno))

    def test_the_interface_stands_in_its_file(self):
        for path in files():
            defs = [node for node in tree_of(path).body if getattr(node, "name", "") == "answers"]
            self.assertEqual(len(defs), 1 if path.name == "games.py" else 0, path)
            for node in defs:
                self.assertEqual([part.arg for part in node.args.args], ["calls"])
                self.assertEqual(node.args.defaults, [])


if __name__ == "__main__":
    unittest.main()
