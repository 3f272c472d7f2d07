"""The package keeps to the small part of Python it is written in: what can be seen in its files."""

import ast
import builtins
import pathlib
import re
import unittest

PACKAGE = pathlib.Path(__file__).resolve().parent.parent / "drawnsums"
FILES = sorted(PACKAGE.rglob("*.py"))

STATEMENTS = (ast.FunctionDef, ast.ClassDef, ast.Assign, ast.AugAssign, ast.If, ast.While, ast.For, ast.Return,
              ast.Break, ast.Continue, ast.Pass, ast.Raise, ast.Try, ast.Expr, ast.ImportFrom)
EXPRESSIONS = (ast.Constant, ast.List, ast.Tuple, ast.Dict, ast.Set, ast.BinOp, ast.UnaryOp, ast.BoolOp, ast.Compare,
               ast.IfExp, ast.Call, ast.Attribute, ast.Subscript, ast.Slice, ast.ListComp, ast.Name, ast.JoinedStr,
               ast.FormattedValue, ast.Lambda)
OWN_NAMES = """len range enumerate zip min max sum abs sorted reversed int str bool list tuple dict set frozenset
    isinstance ord repr any all divmod Exception ValueError TypeError KeyError IndexError LookupError
    ZeroDivisionError ArithmeticError OverflowError RuntimeError NotImplementedError AttributeError
    StopIteration""".split()
OWN_METHODS = """append clear copy count endswith extend find get index insert isalnum isalpha isdigit islower isspace
    isupper items join keys ljust lower lstrip partition pop remove replace reverse rfind rjust rpartition rsplit
    rstrip setdefault split splitlines startswith strip update upper values zfill bit_length""".split()
UNUSED_WORDS = """type typing typing_extensions enum Enum IntEnum StrEnum Flag IntFlag Generic Protocol ABC ABCMeta
    namedtuple NamedTuple TypedDict TYPE_CHECKING abstractmethod""".split()
TWO_UNDERSCORES = ("__init__", "__eq__", "__repr__", "__str__", "__len__")


def nodes(file, *kinds):
    return [node for node in ast.walk(ast.parse(file.read_text())) if isinstance(node, kinds)]


def bound_names(file):
    found = [node.name for node in nodes(file, ast.FunctionDef, ast.ClassDef)]
    found += [node.arg for node in nodes(file, ast.arg)]
    found += [node.id for node in nodes(file, ast.Name) if isinstance(node.ctx, ast.Store)]
    found += [node.attr for node in nodes(file, ast.Attribute) if isinstance(node.ctx, ast.Store)]
    return found


class Language(unittest.TestCase):
    def test_files(self):
        found = [path for path in PACKAGE.rglob("*") if "__pycache__" not in path.parts]
        self.assertEqual([path.name for path in found if path.suffix != ".py"], [])
        self.assertIn("__init__.py", [path.name for path in found])
        for file in FILES:
            self.assertRegex(file.stem, r"^(__init__|[a-z][a-z0-9_]*)$")
            self.assertNotIn(file.stem, dir(builtins))

    def test_signs_and_sizes(self):
        for file in FILES:
            text = file.read_text()
            self.assertEqual([sign for sign in text if sign != "\n" and not " " <= sign <= "~"], [])
            rows = text.splitlines()
            self.assertLessEqual(len(rows), 400)
            self.assertLessEqual(max(len(row) for row in rows), 120)
            for node in nodes(file, ast.FunctionDef):
                self.assertLessEqual(node.end_lineno - node.lineno + 1, 40, node.name)

    def test_words(self):
        for file in FILES:
            text = file.read_text()
            self.assertEqual([word for word in UNUSED_WORDS if re.search(rf"\b{word}\b", text)], [])
            self.assertNotRegex(text, "dataclass|overload|contextmanager")

    def test_imports(self):
        for file in FILES:
            for node in nodes(file, ast.Import, ast.ImportFrom):
                self.assertIsInstance(node, ast.ImportFrom)
                self.assertEqual(node.level, 0)
                source = PACKAGE / (node.module.removeprefix("drawnsums.") + ".py")
                self.assertTrue(source.exists(), node.module)
                at_top = ast.parse(source.read_text()).body
                defined = [part.name for part in at_top if isinstance(part, (ast.FunctionDef, ast.ClassDef))]
                defined += [part.targets[0].id for part in at_top if isinstance(part, ast.Assign)]
                for name in node.names:
                    self.assertIn(name.name, defined)
                    self.assertIsNone(name.asname)

    def test_statements_and_expressions(self):
        for file in FILES:
            for node in nodes(file, ast.stmt):
                self.assertIsInstance(node, STATEMENTS)
                self.assertFalse(getattr(node, "decorator_list", []))
                if isinstance(node, (ast.FunctionDef, ast.ClassDef)):
                    self.assertIsNone(ast.get_docstring(node))
                if isinstance(node, (ast.For, ast.While)):
                    self.assertEqual(node.orelse, [])
                if isinstance(node, ast.Assign):
                    self.assertEqual(len(node.targets), 1)
                    self.assertNotIsInstance(node.targets[0], ast.Tuple)
            for node in nodes(file, ast.expr):
                self.assertIsInstance(node, EXPRESSIONS)
            self.assertEqual(nodes(file, ast.Div, ast.Is, ast.IsNot, ast.Starred, ast.Pow), [])
            for node in nodes(file, ast.Constant):
                self.assertIsInstance(node.value, (int, str, type(None)))

    def test_names(self):
        for file in FILES:
            for name in bound_names(file):
                if name not in TWO_UNDERSCORES:
                    self.assertRegex(name, r"^[A-Za-z][A-Za-z0-9_]*$")
                self.assertNotIn(name, dir(builtins))
            for node in nodes(file, ast.Name):
                if node.id in dir(builtins):
                    self.assertIn(node.id, OWN_NAMES)

    def test_methods(self):
        own = [part.name for file in FILES for node in nodes(file, ast.ClassDef) for part in node.body
               if isinstance(part, ast.FunctionDef)]
        kept = [node.attr for file in FILES for node in nodes(file, ast.Attribute) if isinstance(node.ctx, ast.Store)]
        self.assertEqual(sorted(set(own) & set(kept)), [])
        for file in FILES:
            for node in nodes(file, ast.Call):
                if isinstance(node.func, ast.Attribute):
                    self.assertIn(node.func.attr, OWN_METHODS + own)

    def test_keywords(self):
        for file in FILES:
            for node in nodes(file, ast.Call):
                known = {"sorted": ("key", "reverse"), "max": ("key", "default"), "min": ("key", "default")}
                for keyword in node.keywords:
                    self.assertIn(keyword.arg, known.get(getattr(node.func, "id", ""), ()))

    def test_each_name_is_bound_once_at_a_files_top(self):
        for file in FILES:
            body = ast.parse(file.read_text()).body
            found = [part.name for part in body if isinstance(part, (ast.FunctionDef, ast.ClassDef))]
            found += [part.targets[0].id for part in body if isinstance(part, ast.Assign)]
            found += [name.name for part in body if isinstance(part, ast.ImportFrom) for name in part.names]
            self.assertEqual(len(found), len(set(found)))
            for part in body:
                if isinstance(part, ast.Assign):
                    self.assertIsInstance(part.value, (ast.Constant, ast.Tuple, ast.UnaryOp))

    def test_no_two_files_draw_from_one_another(self):
        drawn = {file.stem: {node.module.removeprefix("drawnsums.") for node in nodes(file, ast.ImportFrom)}
                 for file in FILES}
        while drawn:
            free = [stem for stem, sources in drawn.items() if not sources & set(drawn)]
            self.assertNotEqual(free, [])
            for stem in free:
                drawn.pop(stem)

    def test_no_local_is_called_like_an_import_or_class(self):
        for file in FILES:
            top = [name.name for node in nodes(file, ast.ImportFrom) for name in node.names]
            top += [node.name for node in nodes(file, ast.ClassDef)]
            self.assertEqual(len(top), len(set(top)))
            inner = [node.arg for node in nodes(file, ast.arg)]
            inner += [node.id for node in nodes(file, ast.Name) if isinstance(node.ctx, ast.Store)]
            self.assertEqual(sorted(set(top) & set(inner)), [])


if __name__ == "__main__":
    unittest.main()
