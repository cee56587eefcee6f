"""What can be checked at a glance of the rules for the package's files (L1, L2, L10, L14, L16, L17)."""

import ast
import builtins
import pathlib
import re
import unittest

FOLDER = pathlib.Path(__file__).resolve().parent.parent / "leapfolk"
FILES = sorted(FOLDER.glob("*.py"))
LIBRARY = ("heapq", "math", "itertools", "collections")
BARRED = ("type typing typing_extensions enum Enum IntEnum StrEnum Flag IntFlag Generic Protocol ABC ABCMeta "
          "namedtuple NamedTuple TypedDict TYPE_CHECKING abstractmethod register mro elements open input law "
          "global async").split()


class Form(unittest.TestCase):

    def test_folder_holds_nothing_but_python_files(self):
        names = [path.name for path in FOLDER.iterdir() if path.name != "__pycache__"]
        self.assertIn("__init__.py", names)
        for name in names:
            self.assertRegex(name, r"^[a-z0-9_]+\.py$")

    def test_sizes_and_characters(self):
        for path in FILES:
            text = path.read_bytes().decode("ascii")
            self.assertRegex(text, r"\A[\n -~]*\n\Z", path.name)
            lines = text.split("\n")
            self.assertLessEqual(len(lines) - 1, 399, path.name)
            self.assertLessEqual(max(len(line) for line in lines), 120, path.name)
            for node in ast.walk(ast.parse(text)):
                if isinstance(node, ast.FunctionDef):
                    self.assertLessEqual(node.end_lineno - node.lineno + 1, 40, (path.name, node.name))

    def test_imports(self):
        for path in FILES:
            for node in ast.walk(ast.parse(path.read_text())):
                self.assertNotIsInstance(node, ast.Import, path.name)
                if isinstance(node, ast.ImportFrom):
                    self.assertEqual(node.level, 0)
                    self.assertTrue(node.module in LIBRARY or node.module.startswith("leapfolk."), path.name)
                    self.assertTrue(all(name.asname is None and name.name != "*" for name in node.names))

    def test_imported_names_are_used_and_defined_where_they_come_from(self):
        for path in FILES:
            tree = ast.parse(path.read_text())
            used = {node.id for node in ast.walk(tree) if isinstance(node, ast.Name)}
            for node in tree.body:
                if isinstance(node, ast.ImportFrom) and node.module.startswith("leapfolk."):
                    source = ast.parse((FOLDER / (node.module.split(".")[1] + ".py")).read_text())
                    defined = {part.name for part in source.body if isinstance(part, (ast.FunctionDef, ast.ClassDef))}
                    defined |= {part.targets[0].id for part in source.body if isinstance(part, ast.Assign)}
                    for name in node.names:
                        self.assertIn(name.name, used, path.name)
                        self.assertIn(name.name, defined, path.name)

    def test_barred_words(self):
        for path in FILES:
            for node in ast.walk(ast.parse(path.read_text())):
                words = [getattr(node, field, None) for field in ("id", "attr", "arg", "name")]
                self.assertFalse([word for word in words if word in BARRED], path.name)

    def test_names_are_not_given_another_meaning(self):
        for path in FILES:
            tree = ast.parse(path.read_text())
            taken = set(dir(builtins))
            for node in tree.body:
                if isinstance(node, ast.ImportFrom):
                    taken |= {name.name for name in node.names}
                elif isinstance(node, ast.ClassDef):
                    taken.add(node.name)
            for node in ast.walk(tree):
                if isinstance(node, ast.Name) and isinstance(node.ctx, ast.Store):
                    self.assertNotIn(node.id, taken, (path.name, node.lineno))
                if isinstance(node, ast.arg):
                    self.assertNotIn(node.arg, taken, (path.name, node.lineno))

    def test_no_floats_and_no_division(self):
        for path in FILES:
            for node in ast.walk(ast.parse(path.read_text())):
                self.assertNotIsInstance(node, ast.Div, path.name)
                if isinstance(node, ast.Constant):
                    self.assertNotIsInstance(node.value, (float, complex), path.name)

    def test_everything_is_documented(self):
        for path in FILES:
            tree = ast.parse(path.read_text())
            self.assertTrue(ast.get_docstring(tree), path.name)
            for node in tree.body:
                if isinstance(node, (ast.FunctionDef, ast.ClassDef)):
                    self.assertTrue(re.match(r"[A-Z].*\.", ast.get_docstring(node) or ""), (path.name, node.name))


if __name__ == "__main__":
    unittest.main()
