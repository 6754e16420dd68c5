"""The rules of the language that can be seen in the package's files."""

import ast
import builtins
import pathlib
import re
import unittest

PACKAGE = pathlib.Path(__file__).resolve().parent.parent / "patchstores"

NODES = """Module Import ImportFrom alias FunctionDef ClassDef arguments arg Lambda Assign AugAssign If While For Return
Break Continue Pass Raise Try ExceptHandler Expr Call keyword Constant List Tuple Dict Set BinOp UnaryOp BoolOp Compare
IfExp Attribute Subscript Slice ListComp comprehension JoinedStr FormattedValue Name Load Store Add Sub Mult FloorDiv
Mod Pow LShift RShift BitOr BitXor BitAnd Invert Not USub UAdd And Or Eq NotEq Lt LtE Gt GtE Is IsNot In NotIn""".split()

OWN_NAMES = """len range enumerate zip min max sum abs sorted reversed int str bool list tuple dict set frozenset isinstance
ord repr any all divmod Exception ValueError TypeError KeyError IndexError LookupError ZeroDivisionError ArithmeticError
OverflowError RuntimeError NotImplementedError AttributeError StopIteration""".split()

METHODS = """append clear copy count endswith extend find get index insert isalnum isalpha isdigit islower isspace isupper
items join keys ljust lower lstrip partition pop remove replace reverse rfind rjust rpartition rsplit rstrip setdefault
split splitlines startswith strip update upper values zfill bit_length""".split()

WORDS = """type typing typing_extensions enum Enum IntEnum StrEnum Flag IntFlag Generic Protocol ABC ABCMeta namedtuple
NamedTuple TypedDict TYPE_CHECKING abstractmethod""".split()

KINDS = (str, bytes, int, list, dict, set, tuple)


def files():
    return sorted(path for path in PACKAGE.rglob("*") if path.is_file() and "__pycache__" not in path.parts)


class Language(unittest.TestCase):
    def trees(self):
        return [ast.parse(path.read_text(encoding="utf-8"), path.name) for path in files()]

    def test_files_and_signs(self):
        self.assertIn(PACKAGE / "__init__.py", files())
        for path in files():
            with self.subTest(path.name):
                self.assertRegex(path.name, r"\A[a-z0-9_]+\.py\Z")
                self.assertTrue(path.stem == "__init__" or not hasattr(builtins, path.stem))
                text = path.read_text(encoding="utf-8")
                self.assertRegex(text, r"\A[ -~\n]*\Z")
                lines = text.splitlines()
                self.assertLessEqual(len(lines), 400)
                self.assertLessEqual(max(len(line) for line in lines), 120)
                self.assertFalse([word for word in WORDS if re.search(r"\b" + word + r"\b", text)])
                self.assertFalse(re.search("dataclass|overload|contextmanager", text))

    def test_what_stands_in_them(self):
        for tree in self.trees():
            for node in ast.walk(tree):
                self.assertIn(node.__class__.__name__, NODES)
                if isinstance(node, ast.Constant):
                    self.assertIsInstance(node.value, (int, str, type(None)))
                if isinstance(node, ast.Assign):
                    self.assertEqual(len(node.targets), 1)
                    self.assertNotIsInstance(node.targets[0], ast.Tuple)
                if isinstance(node, (ast.For, ast.While, ast.Try)):
                    self.assertFalse(node.orelse)

    def test_functions(self):
        for tree in self.trees():
            for node in ast.walk(tree):
                if isinstance(node, ast.FunctionDef):
                    self.assertLessEqual(node.end_lineno - node.lineno + 1, 40)
                    self.assertFalse(node.decorator_list)
                    self.assertIsNone(ast.get_docstring(node))
                    bound = [arg.arg for arg in node.args.args]
                    bound += [name.id for name in ast.walk(node) if self.is_stored(name)]
                    self.assertFalse(sorted(set(bound) & self.taken_names(tree)))

    def is_stored(self, node):
        return isinstance(node, ast.Name) and isinstance(node.ctx, ast.Store)

    def taken_names(self, tree):
        taken = set(dir(builtins))
        for node in tree.body:
            if isinstance(node, ast.ImportFrom):
                taken.update(name.name for name in node.names)
            if isinstance(node, (ast.ClassDef, ast.FunctionDef)):
                taken.add(node.name)
        return taken

    def test_names(self):
        for tree in self.trees():
            for node in ast.walk(tree):
                if isinstance(node, ast.Name):
                    self.assertFalse(node.id.startswith("_"))
                    self.assertTrue(node.id in OWN_NAMES or not hasattr(builtins, node.id), node.id)
                if isinstance(node, ast.Attribute):
                    own = any(hasattr(kind, node.attr) for kind in KINDS)
                    self.assertTrue(node.attr in METHODS or not own, node.attr)

    def test_imports_are_the_packages_own(self):
        for tree in self.trees():
            for node in ast.walk(tree):
                self.assertNotIsInstance(node, ast.Import)
                if isinstance(node, ast.ImportFrom):
                    self.assertIn(node, tree.body)
                    self.assertEqual(node.level, 0)
                    self.assertTrue(node.module.startswith("patchstores."))
                    source = PACKAGE / (node.module.split(".")[1] + ".py")
                    defined = self.defined_in(source)
                    self.assertFalse([name.name for name in node.names if name.name not in defined])

    def defined_in(self, path):
        names = []
        for node in ast.parse(path.read_text(encoding="utf-8")).body:
            if isinstance(node, (ast.ClassDef, ast.FunctionDef)):
                names.append(node.name)
            if isinstance(node, ast.Assign):
                names.append(node.targets[0].id)
        return names


if __name__ == "__main__":
    unittest.main()
