"""The rules of the language that are plain to check: sizes, signs, imports, words; and the examples of README.md."""

import ast
import doctest
import pathlib
import re
import unittest
import warnings

HOME = pathlib.Path(__file__).resolve().parent.parent
FILES = sorted((HOME / "lookedrows").rglob("*.py"))
LIBRARY = {
    "heapq": {"heappush", "heappop", "heapify", "heapreplace", "heappushpop"},
    "math": {"gcd", "lcm", "isqrt", "comb", "perm", "factorial"},
    "itertools": {"product", "combinations", "permutations", "chain", "accumulate", "pairwise", "islice", "zip_longest"},
    "collections": {"defaultdict", "deque"},
    "__future__": {"annotations"},
}
BARRED = re.compile(r"\b(typing|enum|Enum|Generic|Protocol|ABC|namedtuple|NamedTuple)\b|dataclass|overload|_wall")


def read(file):
    return file.read_text(encoding="utf-8")


def nodes(*kinds):
    """The pairs of each file and each of its nodes of these kinds."""
    return [(file, node) for file in FILES for node in ast.walk(ast.parse(read(file))) if isinstance(node, kinds)]


class TestLanguage(unittest.TestCase):

    def test_there_are_files(self):
        names = [file.name for file in FILES]
        for name in ("__init__.py", "errors.py", "values.py", "conditions.py"):
            self.assertIn(name, names)

    def test_signs_and_lengths(self):
        for file in FILES:
            lines = read(file).split("\n")
            self.assertLessEqual(len(lines) - 1, 399, file)
            for line in lines:
                self.assertLessEqual(len(line), 120, (file, line))
                self.assertTrue(all(" " <= sign <= "~" for sign in line), (file, line))
                self.assertIsNone(BARRED.search(line), (file, line))

    def test_functions_are_short(self):
        for file, node in nodes(ast.FunctionDef):
            self.assertLessEqual(node.end_lineno - node.lineno + 1, 40, (file, node.name))

    def test_strings_have_no_percent_sign(self):
        for file, node in nodes(ast.Constant):
            if isinstance(node.value, str):
                self.assertNotIn("%", node.value, file)

    def test_imports_name_the_file_that_defines_the_name(self):
        self.assertEqual(nodes(ast.Import), [])
        for file, node in nodes(ast.ImportFrom):
            self.assertEqual(node.level, 0, file)
            for alias in node.names:
                self.assertIsNone(alias.asname, file)
                if node.module in LIBRARY:
                    self.assertIn(alias.name, LIBRARY[node.module], file)
                else:
                    source = read(HOME / (node.module.replace(".", "/") + ".py"))
                    self.assertRegex(source, rf"(?m)^((def|class) {alias.name}\b|{alias.name} = )", file)

    def test_python_gives_no_warning(self):
        with warnings.catch_warnings():
            warnings.simplefilter("error")
            for file in FILES:
                compile(read(file), str(file), "exec")

    def test_the_examples_of_the_readme(self):
        result = doctest.testfile(str(HOME / "README.md"), module_relative=False)
        self.assertEqual(result.failed, 0)
        self.assertGreater(result.attempted, 0)


if __name__ == "__main__":
    unittest.main()
