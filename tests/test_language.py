"""Rules of the language that can be read off the files: L1 to L3, L6, L8, L10, L12, L14 to L17, L20 and L25."""

import ast
import builtins
import pathlib
import re
import unittest

PACKAGE = pathlib.Path(__file__).resolve().parent.parent / "nearturns"
FILES = sorted(PACKAGE.glob("*.py"))
ALLOWED = (
    "len range enumerate zip min max sum abs sorted reversed int str bool bytes list tuple dict set frozenset "
    "isinstance ord repr any all divmod Exception ValueError TypeError KeyError IndexError LookupError "
    "ZeroDivisionError ArithmeticError OverflowError RuntimeError NotImplementedError AttributeError "
    "StopIteration NotImplemented property staticmethod classmethod super"
).split()
BARRED = (
    "type typing typing_extensions enum Enum IntEnum StrEnum Flag IntFlag Generic Protocol ABC ABCMeta namedtuple "
    "NamedTuple TypedDict TYPE_CHECKING abstractmethod"
).split()
METHODS = (
    "append clear copy count endswith extend find get index insert isalnum isalpha isdigit islower isspace isupper "
    "items join keys ljust lower lstrip partition pop remove replace reverse rfind rjust rpartition rsplit rstrip "
    "setdefault split splitlines startswith strip update upper values zfill bit_length"
).split()


def parts(path, kinds):
    return [part for part in ast.walk(ast.parse(path.read_text())) if isinstance(part, kinds)]


class Language(unittest.TestCase):
    def test_the_folder_has_plain_files_only(self):
        names = [path.name for path in PACKAGE.iterdir() if path.name != "__pycache__"]
        self.assertIn("__init__.py", names)
        for name in names:
            self.assertRegex(name, r"\A[a-z0-9_]+\.py\Z")

    def test_characters_and_lines(self):
        for path in FILES:
            text = path.read_bytes().decode("ascii")
            self.assertTrue(all(sign == "\n" or " " <= sign <= "~" for sign in text), path)
            self.assertLessEqual(len(text.splitlines()), 400, path)
            for line in text.splitlines():
                self.assertLessEqual(len(line), 120, (path, line))

    def test_functions_are_short(self):
        for path in FILES:
            for part in parts(path, ast.FunctionDef):
                self.assertLessEqual(part.end_lineno - part.lineno + 1, 40, (path, part.name))

    def test_imports_are_of_the_package(self):
        for path in FILES:
            self.assertEqual(parts(path, ast.Import), [], path)
            for part in parts(path, ast.ImportFrom):
                self.assertEqual(part.level, 0, path)
                self.assertRegex(part.module, r"\A(nearturns\.[a-z]+|__future__)\Z")
                self.assertNotIn("*", [name.name for name in part.names])

    def test_imports_name_the_file_that_defines_the_name(self):
        for path in FILES:
            for part in parts(path, ast.ImportFrom):
                tree = ast.parse((PACKAGE / (part.module.split(".")[1] + ".py")).read_text())
                defined = [known.name for known in tree.body if isinstance(known, (ast.FunctionDef, ast.ClassDef))]
                for known in tree.body:
                    if isinstance(known, ast.Assign):
                        defined += [target.id for target in known.targets]
                for name in part.names:
                    self.assertIn(name.name, defined, path)

    def test_no_two_files_import_from_each_other(self):
        ahead = {path.stem: {part.module.split(".")[1] for part in parts(path, ast.ImportFrom)} for path in FILES}
        while ahead:
            free = [name for name in ahead if not ahead[name] & set(ahead)]
            self.assertTrue(free, ahead)
            for name in free:
                del ahead[name]

    def test_module_level(self):
        for path in FILES:
            names = []
            for at, part in enumerate(ast.parse(path.read_text()).body):
                if isinstance(part, ast.Expr):
                    self.assertEqual((at, type(part.value)), (0, ast.Constant), path)
                elif isinstance(part, ast.Assign):
                    names += [target.id for target in part.targets]
                    self.assertFalse([deep for deep in ast.walk(part) if isinstance(deep, (ast.Call, ast.Lambda))], path)
                elif isinstance(part, (ast.FunctionDef, ast.ClassDef)):
                    names.append(part.name)
                else:
                    self.assertIsInstance(part, ast.ImportFrom, path)
                    names += [name.asname or name.name for name in part.names]
            self.assertEqual(len(set(names)), len(names), path)

    def test_statements_that_are_not_allowed(self):
        barred = (ast.Global, ast.AsyncFunctionDef, ast.AsyncFor, ast.AsyncWith, ast.Await)
        for path in FILES:
            self.assertEqual(parts(path, barred), [], path)
            self.assertEqual([part for part in parts(path, ast.FunctionDef) if part.decorator_list], [], path)

    def test_methods_that_are_called(self):
        own = [
            part.name for path in FILES for known in parts(path, ast.ClassDef) for part in known.body
            if isinstance(part, ast.FunctionDef)
        ]
        for path in FILES:
            for part in parts(path, ast.Call):
                if isinstance(part.func, ast.Attribute):
                    self.assertIn(part.func.attr, METHODS + own, path)

    def test_builtins(self):
        for path in FILES:
            for part in parts(path, ast.Name):
                if hasattr(builtins, part.id):
                    self.assertIn(part.id, ALLOWED, path)
                    self.assertIsInstance(part.ctx, ast.Load, path)

    def test_no_parameter_or_variable_has_the_name_of_an_import_a_class_or_a_builtin(self):
        for path in FILES:
            taken = [name.asname or name.name for part in parts(path, ast.ImportFrom) for name in part.names]
            taken += [part.name for part in parts(path, ast.ClassDef)]
            names = [part.arg for part in parts(path, ast.arg)]
            names += [part.id for part in parts(path, ast.Name) if isinstance(part.ctx, ast.Store)]
            for name in names:
                self.assertNotIn(name, taken, path)
                self.assertFalse(hasattr(builtins, name), (path, name))

    def test_names_have_no_underscore_ahead(self):
        for path in FILES:
            names = [part.id for part in parts(path, ast.Name)]
            names += [part.arg for part in parts(path, ast.arg)]
            names += [part.attr for part in parts(path, ast.Attribute)]
            names += [part.name for part in parts(path, (ast.FunctionDef, ast.ClassDef))]
            for name in names:
                self.assertFalse(name.startswith("_") and not name.endswith("__"), (path, name))

    def test_barred_words(self):
        for path in FILES:
            for word in re.findall(r"\w+", path.read_text()):
                self.assertNotIn(word, BARRED, path)

    def test_no_floats_and_no_percent_in_texts(self):
        for path in FILES:
            self.assertEqual(parts(path, ast.Div), [], path)
            for part in parts(path, ast.Constant):
                self.assertNotIsInstance(part.value, float, path)
                if isinstance(part.value, str):
                    self.assertNotIn("%", part.value, path)

    def test_is_stands_with_none_true_and_false_only(self):
        for path in FILES:
            for part in parts(path, ast.Compare):
                for sign, right in zip(part.ops, part.comparators):
                    if isinstance(sign, (ast.Is, ast.IsNot)):
                        self.assertIsInstance(right, ast.Constant, path)
                        self.assertTrue(right.value is None or isinstance(right.value, bool), path)


if __name__ == "__main__":
    unittest.main()
