"""Tests of a part of the form of the package's files: places, characters, lengths and imports."""

import ast
import pathlib
import re
import unittest

PACKAGE = pathlib.Path(__file__).resolve().parent.parent / "growthkinds"
LIBRARY = {
    "heapq": {"heappush", "heappop", "heapify", "heapreplace", "heappushpop"},
    "math": {"gcd", "lcm", "isqrt", "comb", "perm", "factorial"},
    "itertools": {"product", "combinations", "permutations"},
}


def files():
    """List the files of the package, leaving out what Python may have put there itself."""
    found = [path for path in PACKAGE.rglob("*") if "__pycache__" not in path.parts]
    return sorted(path for path in found if path.is_file())


def parts(path, *kinds):
    """List the parts of a file that are of some kinds."""
    return [part for part in ast.walk(ast.parse(path.read_text())) if isinstance(part, kinds)]


class FormTest(unittest.TestCase):

    def test_only_python_files_with_plain_names(self):
        self.assertIn(PACKAGE / "__init__.py", files())
        for path in files():
            with self.subTest(path=path.name):
                self.assertRegex(path.name, r"\A[a-z0-9_]+\.py\Z")
                self.assertNotRegex(path.name, r"\Atest")

    def test_characters_and_lengths(self):
        for path in files():
            text = path.read_bytes().decode("ascii")
            lines = text.split("\n")
            with self.subTest(path=path.name):
                self.assertIsNone(re.search(r"[^ -~\n]", text))
                self.assertLessEqual(len(lines), 399)
                self.assertLessEqual(max(len(line) for line in lines), 120)

    def test_short_functions(self):
        for path in files():
            for part in parts(path, ast.FunctionDef):
                with self.subTest(path=path.name, name=part.name):
                    self.assertLessEqual(part.end_lineno - part.lineno + 1, 40)

    def test_imports(self):
        for path in files():
            self.assertEqual([part for part in parts(path, ast.Import) if path.name != "__main__.py"], [])
            for part in parts(path, ast.ImportFrom):
                with self.subTest(path=path.name, module=part.module):
                    self.assertEqual(part.level, 0)
                    names = {alias.name for alias in part.names}
                    self.assertNotIn("*", names)
                    if not part.module.startswith("growthkinds."):
                        self.assertLessEqual(names, LIBRARY[part.module])
