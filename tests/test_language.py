"""Rules of the language that can be read off the files: L1, L2, L8, L10, L12, L14 to L17 and L20."""

import ast
import builtins
import pathlib
import re
import unittest

PACKAGE = pathlib.Path(__file__).resolve().parent.parent / "nearturns"
FILES = sorted(PACKAGE.glob("*.py"))
ALLOWED = (
    "len range enumerate zip min max sum abs sorted reversed int str bool bytes list tuple dict set frozenset "
    "isinstance ord repr any all divmod Exception ValueError TypeError KeyError IndexError LookupError "
    "ZeroDivisionError ArithmeticError OverflowError RuntimeError NotImplementedError AttributeError "
    "StopIteration NotImplemented property staticmethod classmethod super"
).split()
BARRED = (
    "type typing typing_extensions enum Enum IntEnum StrEnum Flag IntFlag Generic Protocol ABC ABCMeta namedtuple "
    "NamedTuple TypedDict TYPE_CHECKING abstractmethod"
).split()


def parts(path, kinds):
    return [part for part in ast.walk(ast.parse(path.read_text())) if isinstance(part, kinds)]


class Language(unittest.TestCase):
    def test_the_folder_has_plain_files_only(self):
        names = [path.name for path in PACKAGE.iterdir() if path.name != "__pycache__"]
        self.assertIn("__init__.py", names)
        for name in names:
            self.assertRegex(name, r"\A[a-z0-9_]+\.py\Z")

    def test_characters_and_lines(self):
        for path in FILES:
            text = path.read_bytes().decode("ascii")
            self.assertTrue(all(sign == "\n" or " " <= sign <= "~" for sign in text), path)
            self.assertLessEqual(len(text.splitlines()), 400, path)
            for line in text.splitlines():
                self.assertLessEqual(len(line), 120, (path, line))

    def test_functions_are_short(self):
        for path in FILES:
            for part in parts(path, ast.FunctionDef):
                self.assertLessEqual(part.end_lineno - part.lineno + 1, 40, (path, part.name))

    def test_imports_are_of_the_package(self):
        for path in FILES:
            self.assertEqual(parts(path, ast.Import), [], path)
            for part in parts(path, ast.ImportFrom):
                self.assertEqual(part.level, 0, path)
                self.assertRegex(part.module, r"\A(nearturns\.[a-z]+|__future__)\Z")
                self.assertNotIn("*", [name.name for name in part.names])

    def test_builtins(self):
        for path in FILES:
            for part in parts(path, ast.Name):
                if hasattr(builtins, part.id):
                    self.assertIn(part.id, ALLOWED, path)
                    self.assertIsInstance(part.ctx, ast.Load, path)

    def test_no_parameter_or_variable_has_the_name_of_an_import_a_class_or_a_builtin(self):
        for path in FILES:
            taken = [name.asname or name.name for part in parts(path, ast.ImportFrom) for name in part.names]
            taken += [part.name for part in parts(path, ast.ClassDef)]
            names = [part.arg for part in parts(path, ast.arg)]
            names += [part.id for part in parts(path, ast.Name) if isinstance(part.ctx, ast.Store)]
            for name in names:
                self.assertNotIn(name, taken, path)
                self.assertFalse(hasattr(builtins, name), (path, name))

    def test_names_have_no_underscore_ahead(self):
        for path in FILES:
            names = [part.id for part in parts(path, ast.Name)]
            names += [part.arg for part in parts(path, ast.arg)]
            names += [part.attr for part in parts(path, ast.Attribute)]
            names += [part.name for part in parts(path, (ast.FunctionDef, ast.ClassDef))]
            for name in names:
                self.assertFalse(name.startswith("_") and not name.endswith("__"), (path, name))

    def test_barred_words(self):
        for path in FILES:
            for word in re.findall(r"\w+", path.read_text()):
                self.assertNotIn(word, BARRED, path)

    def test_no_floats_and_no_percent_in_texts(self):
        for path in FILES:
            self.assertEqual(parts(path, ast.Div), [], path)
            for part in parts(path, ast.Constant):
                self.assertNotIsInstance(part.value, float, path)
                if isinstance(part.value, str):
                    self.assertNotIn("%", part.value, path)

    def test_is_stands_with_none_true_and_false_only(self):
        for path in FILES:
            for part in parts(path, ast.Compare):
                for sign, right in zip(part.ops, part.comparators):
                    if isinstance(sign, (ast.Is, ast.IsNot)):
                        self.assertIsInstance(right, ast.Constant, path)
                        self.assertTrue(right.value is None or isinstance(right.value, bool), path)


if __name__ == "__main__":
    unittest.main()
