"""Point 1: no clock, chance or files; and the plainest of the rules for the package's own files."""

import ast
import builtins
import pathlib
import unittest

PACKAGE = pathlib.Path(__file__).resolve().parent.parent / "keyswap"

OWN_NAMES = """len range enumerate zip min max sum abs sorted reversed int str bool list tuple dict set frozenset
isinstance ord repr any all divmod Exception ValueError TypeError KeyError IndexError LookupError ZeroDivisionError
ArithmeticError OverflowError RuntimeError NotImplementedError AttributeError StopIteration""".split()


def sources():
    return [(path, path.read_text(encoding="utf-8")) for path in sorted(PACKAGE.rglob("*.py"))]


def nodes():
    return [(path, node) for path, text in sources() for node in ast.walk(ast.parse(text))]


class Sources(unittest.TestCase):
    def test_the_files_are_found(self):
        names = [path.name for path, text in sources()]
        for name in ("__init__.py", "errors.py", "wishes.py", "rings.py", "groups.py"):
            self.assertIn(name, names)

    def test_imports_are_from_the_package_alone(self):
        for path, node in nodes():
            self.assertNotIsInstance(node, ast.Import, path)
            if isinstance(node, ast.ImportFrom):
                self.assertEqual(node.level, 0, path)
                self.assertEqual(node.module.split(".")[0], "keyswap", path)

    def test_only_the_allowed_names_of_python(self):
        for path, node in nodes():
            if isinstance(node, ast.Name) and hasattr(builtins, node.id):
                self.assertIn(node.id, OWN_NAMES, f"{path}:{node.lineno}")

    def test_no_name_begins_with_an_underscore(self):
        for path, node in nodes():
            if isinstance(node, ast.Name):
                self.assertFalse(node.id.startswith("_"), f"{path}:{node.lineno}")

    def test_signs_and_sizes(self):
        for path, text in sources():
            rows = text.split("\n")
            self.assertLessEqual(len(rows), 401, path)
            self.assertLessEqual(max(len(row) for row in rows), 120, path)
            self.assertTrue(all(sign == "\n" or " " <= sign <= "~" for sign in text), path)
        for path, node in nodes():
            if isinstance(node, ast.FunctionDef):
                self.assertLessEqual(node.end_lineno - node.lineno + 1, 40, f"{path}:{node.lineno}")


if __name__ == "__main__":
    unittest.main()
