"""The rules of the language that are plain to check: sizes, signs, imports, words; and the examples of README.md."""

import ast
import builtins
import doctest
import pathlib
import re
import unittest
import warnings

HOME = pathlib.Path(__file__).resolve().parent.parent
FILES = sorted((HOME / "lookedrows").rglob("*.py"))
LIBRARY = {
    "heapq": {"heappush", "heappop", "heapify", "heapreplace", "heappushpop"},
    "math": {"gcd", "lcm", "isqrt", "comb", "perm", "factorial"},
    "itertools": {"product", "combinations", "permutations", "chain", "accumulate", "pairwise", "islice",
                  "zip_longest"},
    "collections": {"defaultdict", "deque"},
    "__future__": {"annotations"},
}
BARRED = re.compile(r"\b(typing|enum|Enum|Generic|Protocol|ABC|namedtuple|NamedTuple)\b|dataclass|overload|_wall")


def read(file):
    return file.read_text(encoding="utf-8")


def nodes(*kinds):
    """The pairs of each file and each of its nodes of these kinds."""
    return [(file, node) for file in FILES for node in ast.walk(ast.parse(read(file))) if isinstance(node, kinds)]


# The methods of builtin values and the builtins that the language has, as far as a program of this kind may need them.
METHODS = set("""append clear copy count endswith extend find get index insert isalnum isalpha isdigit islower isspace
    isupper items join keys ljust lower lstrip partition pop remove replace reverse rfind rjust rpartition rsplit rstrip
    setdefault split splitlines startswith strip update upper values zfill bit_length add discard""".split())
BUILTINS = set("""len range enumerate zip min max sum abs sorted reversed int str bool list tuple dict set isinstance
    ord repr any all divmod Exception ValueError KeyError IndexError LookupError NotImplemented super property
    classmethod staticmethod""".split())
BARRED_NAMES = re.compile(
    r"__\w+|_(wall|pe_|dcw_|enum_|cm_|twin_re_|lay_|law_|stub_|sre)\w*"
    r"|_(cold|tuplegetter|outside|record|written_out|member_names)[_0-9]*"
    r"|register|mro|elements|open|input|law|version_info|with_traceback|add_note|attrgetter|compile|dir|eval|exec|exit"
    r"|gc|globals|help|id|locals|os|quit|type|vars|sys|license|copyright|credits|format|args|sort|encode|decode|hex")
SPECIAL = re.compile(r"__(init|eq|repr|str|len|contains|add|sub|and|call|class|name)__")
# What may go over a zip, a range and the like at once.
AT_ONCE = {"list", "tuple", "dict", "sorted", "sum", "any", "all", "enumerate", "zip", "len", "reversed", "min", "max",
           "combinations"}


def classes():
    return [node for _, node in nodes(ast.ClassDef)]


def methods_of(node):
    return [part for part in node.body if isinstance(part, ast.FunctionDef)]


def decorators(method):
    return [each.id if isinstance(each, ast.Name) else each.attr for each in method.decorator_list]


def properties():
    return {method.name for node in classes() for method in methods_of(node) if decorators(method)[:1] == ["property"]}


def setters():
    return {method.name for node in classes() for method in methods_of(node) if decorators(method)[:1] == ["setter"]}


def plain_methods():
    return {method.name for node in classes() for method in methods_of(node) if "property" not in decorators(method)}


def stored_attributes():
    return {node.attr for _, node in nodes(ast.Attribute) if isinstance(node.ctx, ast.Store)}


def class_values():
    return {target.id for node in classes() for part in node.body if isinstance(part, ast.Assign)
            for target in part.targets}


def parents(tree):
    return {child: node for node in ast.walk(tree) for child in ast.iter_child_nodes(node)}


def stored_names(tree):
    """The names of parameters, variables and caught errors."""
    found = {node.arg for node in ast.walk(tree) if isinstance(node, ast.arg)}
    found |= {node.id for node in ast.walk(tree) if isinstance(node, ast.Name) and isinstance(node.ctx, ast.Store)}
    return found | {node.name for node in ast.walk(tree) if isinstance(node, ast.ExceptHandler) and node.name}


def generators():
    return {node.name for _, node in nodes(ast.FunctionDef)
            if any(isinstance(part, (ast.Yield, ast.YieldFrom)) for part in ast.walk(node))}


def is_plain_length(value):
    """Whether what a __len__ returns is one `len(..)` or a literal number."""
    if isinstance(value, ast.Constant):
        return type(value.value) is int
    return isinstance(value, ast.Call) and isinstance(value.func, ast.Name) and value.func.id == "len"


class TestLanguage(unittest.TestCase):

    def test_there_are_files(self):
        names = [file.name for file in FILES]
        for name in ("__init__.py", "errors.py", "values.py", "conditions.py", "systems.py", "tables.py",
                     "procedures.py", "running.py", "rules.py", "cases.py", "verdicts.py", "questions.py",
                     "meetings.py", "regions.py", "needs.py", "texts.py", "shelves.py", "pages.py", "desk.py"):
            self.assertIn(name, names)

    def test_signs_and_lengths(self):
        for file in FILES:
            lines = read(file).split("\n")
            self.assertLessEqual(len(lines) - 1, 399, file)
            for line in lines:
                self.assertLessEqual(len(line), 120, (file, line))
                self.assertTrue(all(" " <= sign <= "~" for sign in line), (file, line))
                self.assertIsNone(BARRED.search(line), (file, line))

    def test_functions_are_short(self):
        for file, node in nodes(ast.FunctionDef):
            self.assertLessEqual(node.end_lineno - node.lineno + 1, 40, (file, node.name))

    def test_strings_have_no_percent_sign(self):
        for file, node in nodes(ast.Constant):
            if isinstance(node.value, str):
                self.assertNotIn("%", node.value, file)

    def test_imports_name_the_file_that_defines_the_name(self):
        self.assertEqual(nodes(ast.Import), [])
        for file, node in nodes(ast.ImportFrom):
            self.assertEqual(node.level, 0, file)
            for alias in node.names:
                self.assertIsNone(alias.asname, file)
                if node.module in LIBRARY:
                    self.assertIn(alias.name, LIBRARY[node.module], file)
                else:
                    source = read(HOME / (node.module.replace(".", "/") + ".py"))
                    self.assertRegex(source, rf"(?m)^((def|class) {alias.name}\b|{alias.name} = )", file)

    def test_properties_are_neither_methods_nor_assigned(self):
        self.assertEqual(properties() & (plain_methods() - setters()), set())
        self.assertEqual(properties() & (stored_attributes() - setters()), set())

    def test_no_name_is_a_method_and_an_attribute(self):
        self.assertEqual(plain_methods() & stored_attributes() - setters(), set())

    def test_attributes_and_methods_are_known(self):
        known = properties() | plain_methods() | stored_attributes() | class_values() | METHODS
        known |= {"__class__", "__name__", "setter"}
        for file, node in nodes(ast.Attribute):
            self.assertIn(node.attr, known, (file, node.lineno))

    def test_own_methods_are_not_those_of_builtin_values(self):
        values = ("", 0, b"", [], (), {}, set())
        taken = {name for value in values for name in dir(value) if not name.startswith("__")}
        self.assertEqual((plain_methods() | properties()) & taken, set())

    def test_names(self):
        for file in FILES:
            tree = ast.parse(read(file))
            bound = {node.name for node in tree.body if isinstance(node, (ast.FunctionDef, ast.ClassDef))}
            bound |= {alias.name for node in tree.body if isinstance(node, ast.ImportFrom) for alias in node.names}
            values = {target.id for node in tree.body if isinstance(node, ast.Assign) for target in node.targets}
            local = stored_names(tree) - values
            for name in local:
                self.assertNotIn(name, bound, file)
                self.assertFalse(hasattr(builtins, name), (file, name))
            for node in ast.walk(tree):
                if isinstance(node, ast.Name) and node.id not in bound | values | local:
                    self.assertIn(node.id, BUILTINS, (file, node.lineno))
                for part in ("id", "attr", "arg", "name"):
                    name = getattr(node, part, None)
                    if isinstance(name, str) and not SPECIAL.fullmatch(name):
                        self.assertIsNone(BARRED_NAMES.fullmatch(name), (file, node.lineno, name))

    def test_statements_and_expressions(self):
        barred = (ast.GeneratorExp, ast.Global, ast.AsyncFunctionDef, ast.Await)
        self.assertEqual([(file, node.lineno) for file, node in nodes(*barred)], [])
        self.assertEqual([file for file, node in nodes(ast.BinOp) if isinstance(node.op, ast.Div)], [])
        for file, node in nodes(ast.Compare):
            for sign, side in zip(node.ops, node.comparators):
                if isinstance(sign, (ast.Is, ast.IsNot)):
                    self.assertIsInstance(side, ast.Constant, (file, node.lineno))

    def test_zips_and_their_like_are_iterated_at_once(self):
        names = {"zip", "enumerate", "range", "reversed", *generators()}
        for file in FILES:
            tree = ast.parse(read(file))
            above = parents(tree)
            for node in [node for node in ast.walk(tree) if isinstance(node, ast.Call)]:
                around = above[node]
                if isinstance(node.func, ast.Name) and node.func.id in names:
                    self.check_iterated(around, node, file)
                if isinstance(node.func, ast.Attribute) and node.func.attr in ("items", "keys", "values"):
                    self.check_iterated(around, node, file)

    def check_iterated(self, around, node, file):
        if isinstance(around, ast.Call):
            self.assertIsInstance(around.func, ast.Name, (file, node.lineno))
            self.assertIn(around.func.id, AT_ONCE, (file, node.lineno))
        else:
            self.assertIsInstance(around, (ast.For, ast.comprehension), (file, node.lineno))
            self.assertIs(around.iter, node)

    def test_what_double_underscore_methods_do(self):
        for node in classes():
            for method in methods_of(node):
                if method.name in ("__eq__", "__repr__", "__len__"):
                    self.assertIsInstance(method.body[-1], ast.Return)
                    for part in ast.walk(method):
                        self.assertNotIsInstance(part, (ast.Assign, ast.AugAssign))

    def test_what_len_returns(self):
        seen = 0
        for node in classes():
            for method in methods_of(node):
                if method.name == "__len__":
                    for part in ast.walk(method):
                        if isinstance(part, ast.Return):
                            seen += 1
                            self.assertTrue(is_plain_length(part.value), (node.name, part.lineno))
        self.assertGreaterEqual(seen, 4)

    def test_what_a_plain_length_is(self):
        for text, plain in (("len(rows)", True), ("7", True), ("len([*one, *other])", True), ("len(a) + len(b)", False),
                            ("True", False), ("many", False), ("self.many()", False), ("-1", False)):
            self.assertIs(is_plain_length(ast.parse(text).body[0].value), plain, text)

    def test_calls_with_stars_pass_names(self):
        for file, node in nodes(ast.Call):
            for part in node.args:
                if isinstance(part, ast.Starred):
                    self.assertIsInstance(part.value, ast.Name, (file, node.lineno))

    def test_no_two_files_import_from_each_other(self):
        needs = {file.stem: set() for file in FILES}
        for file, node in nodes(ast.ImportFrom):
            if node.module not in LIBRARY:
                needs[file.stem].add(node.module.split(".")[-1])
        ready = set()
        while len(ready) < len(needs):
            further = {name for name, others in needs.items() if name not in ready and others <= ready}
            self.assertTrue(further, {name: needs[name] for name in needs if name not in ready})
            ready |= further

    def test_attributes_are_assigned_through_a_local_name(self):
        for file, node in nodes(ast.Attribute):
            if not isinstance(node.ctx, ast.Load):
                self.assertIsInstance(node.value, ast.Name, (file, node.lineno))

    def test_python_gives_no_warning(self):
        with warnings.catch_warnings():
            warnings.simplefilter("error")
            for file in FILES:
                compile(read(file), str(file), "exec")

    def test_the_examples_of_the_readme(self):
        result = doctest.testfile(str(HOME / "README.md"), module_relative=False)
        self.assertEqual(result.failed, 0)
        self.assertGreater(result.attempted, 0)


if __name__ == "__main__":
    unittest.main()
