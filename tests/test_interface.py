"""Tests of the interface as a whole: its names, where they are defined, and their parameters."""

import ast
import importlib
import inspect
import pathlib
import unittest

from lookedrows import errors
from lookedrows.cases import Case, cases_of
from lookedrows.conditions import all_of, condition_text, parts, read_condition, values_in
from lookedrows.desk import Desk
from lookedrows.meetings import Exchanged, Woven
from lookedrows.needs import least_rules, spare
from lookedrows.pages import read_page, write_page
from lookedrows.procedures import Procedure
from lookedrows.questions import Again, Alike, Keeps, Never, Question, Twice, Undone
from lookedrows.regions import Outlook
from lookedrows.rules import Rules
from lookedrows.running import run, walk
from lookedrows.shelves import Shelf
from lookedrows.systems import System
from lookedrows.tables import Table
from lookedrows.texts import procedure_text, read_procedure, read_rules, read_table, rules_text, table_text
from lookedrows.values import is_name, is_value, read_value, shifted, value_text
from lookedrows.verdicts import No, Verdict, Yes

HOME = pathlib.Path(__file__).resolve().parent.parent / "lookedrows"
A, YES, ALL = ("name", "a"), ("true",), (None, None)

# The functions of each module with their parameters.
FUNCTIONS = {
    "values": {"is_name": "value", "is_value": "value", "value_text": "value", "read_value": "text",
               "shifted": "value, k"},
    "conditions": {"condition_text": "condition", "read_condition": "text", "parts": "condition",
                   "values_in": "condition", "all_of": "*conditions"},
    "running": {"run": "procedure, table, *numbers", "walk": "procedure, table, *numbers"},
    "cases": {"cases_of": "rules, procedure, many"},
    "needs": {"spare": "rules, procedure", "least_rules": "question, rules"},
    "texts": {"rules_text": "rules", "table_text": "table", "procedure_text": "procedure", "read_rules": "text",
              "read_table": "text", "read_procedure": "text"},
    "pages": {"write_page": "shelf", "read_page": "text"},
}
# The classes of each module: the parameters of their constructors, and their methods with theirs.
CLASSES = {
    "systems": {"System": ("comparisons=()", {
        "comparisons": "", "unknowns": "", "ring": "", "least": "left, right", "example": "", "on": "unknowns",
        "outside": "", "within": "other", "told": ""})},
    "tables": {"Table": ("columns, rows=()", {"rows": "", "all_keys": "", "at": "key"})},
    "procedures": {"Procedure": ("columns, arguments, statements", {
        "statements": "", "first": "n", "without": "n", "found_names": "", "late": ""})},
    "rules": {"Rules": ("columns, *, rows=(), nexts=()", {
        "rows": "", "nexts": "", "keeps": "table", "broken": "table", "some": "*indexes"})},
    "cases": {"Case": ("system, ending, rows, *, arguments=(), many=0", {"rows": "", "matches": "table, *numbers"})},
    "verdicts": {"Verdict": ("question, rules", {"told": ""}),
                 "Yes": ("question, rules", {"told": "", "cases": "many"}),
                 "No": ("question, rules, table, numbers", {"told": "", "shows": ""})},
    "questions": {
        "Question": ("*procedures", {"procedures": "", "ask": "rules", "fails": "rules, table, *numbers"}),
        "Alike": ("one, other", {}), "Keeps": ("procedure", {}), "Never": ("procedure, *, word=None", {}),
        "Twice": ("procedure", {}), "Again": ("procedure", {}), "Undone": ("one, other", {})},
    "meetings": {"Exchanged": ("one, other", {}),
                 "Woven": ("one, other", {"weavings": "", "woven": "weaving, table, *numbers"})},
    "regions": {"Outlook": ("rules, procedure", {
        "returns": "", "fails": "*words", "may_return": "*numbers", "may_fail": "*numbers, word=None",
        "surely_returns": "*numbers", "words": ""})},
    "shelves": {"Shelf": ("*, limit=12", {
        "set_limit": "value", "apply": "*commands", "undo": "", "redo": "", "history": "", "names": "*kinds",
        "kind": "name", "entry": "name", "twin": "", "asked": "word, rules, *procedures", "kept": ""})},
    "desk": {"Desk": ("*, shelf=None", {"say": "line", "shelf": "", "log": "", "__call__": "line"})},
}
PROPERTIES = {
    "System": "is_open", "Table": "columns", "Procedure": "columns arguments looks fails_early", "Rules": "columns",
    "Case": "system ending", "Verdict": "question rules holds", "Yes": "holds", "No": "holds table numbers",
    "Question": "columns arguments looks breadth topic", "Shelf": "limit busy computed",
}
SPECIAL = {
    "System": "and eq contains len repr", "Table": "add sub contains len eq repr", "Procedure": "len eq repr",
    "Rules": "len eq repr", "Case": "repr", "Verdict": "repr", "Question": "repr", "Shelf": "contains len eq repr",
    "Desk": "len call",
}
ERRORS = {
    "InvalidName": "given", "InvalidColumns": "", "InvalidRow": "index", "InvalidValue": "", "InvalidCondition": "path",
    "InvalidArguments": "", "InvalidStatement": "path", "InvalidComparison": "index", "NotOpen": "",
    "InvalidRule": "index", "NotCarried": "witness", "ColumnsDiffer": "", "InvalidCount": "given", "FailsLate": "index",
    "TooWide": "most", "InvalidText": "", "InvalidLine": "index", "DuplicateName": "name", "WrongKind": "name",
    "Full": "limit", "InvalidLimit": "given", "InvalidCommand": "index", "Failed": "word", "UnknownKey": "key",
    "UnknownName": "name", "NothingLeft": "",
}


def module(name):
    return importlib.import_module(f"lookedrows.{name}")


def parameters(function):
    return str(inspect.signature(function))[1:-1]


def defined_in(name):
    """The names of the functions and classes that the file of a module defines."""
    tree = ast.parse((HOME / f"{name}.py").read_text(encoding="utf-8"))
    return {node.name for node in tree.body if isinstance(node, (ast.FunctionDef, ast.ClassDef))}


class TestNames(unittest.TestCase):

    def test_functions(self):
        for name, functions in FUNCTIONS.items():
            self.assertLessEqual(set(functions), defined_in(name))
            for function, told in functions.items():
                self.assertEqual(parameters(getattr(module(name), function)), told, function)

    def test_classes_and_methods(self):
        for name, classes in CLASSES.items():
            self.assertLessEqual(set(classes), defined_in(name))
            for kind, (told, methods) in classes.items():
                made = getattr(module(name), kind)
                self.assertEqual(parameters(made), told, kind)
                for method, told_too in methods.items():
                    # In the class itself, not only in a base class.
                    self.assertIn(method, vars(made), (kind, method))
                    self.assertEqual(parameters(vars(made)[method]), "self" + ", " * bool(told_too) + told_too, method)
                for each in PROPERTIES.get(kind, "").split():
                    self.assertIsInstance(vars(made)[each], property, (kind, each))
                for each in SPECIAL.get(kind, "").split():
                    self.assertIn(f"__{each}__", vars(made), kind)

    def test_class_methods_and_class_values(self):
        for kind, method in ((Table, "empty"), (Rules, "bare")):
            self.assertIsInstance(vars(kind)[method], classmethod)
            self.assertEqual(parameters(getattr(kind, method)), "*columns")
        self.assertEqual(vars(Shelf)["MOST"], 40)
        self.assertIsNotNone(vars(Shelf)["limit"].fset)
        for kind in (Alike, Keeps, Never, Twice, Again, Undone, Exchanged, Woven):
            self.assertTrue(issubclass(kind, Question))
        for kind in (Yes, No):
            self.assertTrue(issubclass(kind, Verdict))

    def test_errors(self):
        self.assertLessEqual({*ERRORS, "TableError", "Missing"}, defined_in("errors"))
        for name, attribute in ERRORS.items():
            kind = getattr(errors, name)
            self.assertEqual(parameters(kind), attribute)
            error = kind(**({attribute: 7} if attribute else {}))
            self.assertEqual(error.code, name)
            if attribute:
                self.assertEqual(getattr(error, attribute), 7)
                self.assertEqual(getattr(kind(8), attribute), 8)
            base = errors.Missing if name.startswith("Unknown") else IndexError if name == "NothingLeft" else None
            self.assertTrue(issubclass(kind, base or errors.TableError))


class TestByName(unittest.TestCase):
    """Every function, method and constructor with its parameters by name; where there may be any number, with none."""

    def test_values_and_conditions(self):
        self.assertIs(is_name(value="a"), True)
        self.assertIs(is_value(value=A), True)
        self.assertEqual(value_text(value=A), "a")
        self.assertEqual(read_value(text="a"), A)
        self.assertEqual(shifted(k=2, value=A), ("plus", A, 2))
        self.assertEqual(condition_text(condition=YES), "true")
        self.assertEqual(read_condition(text="true"), YES)
        self.assertEqual(list(parts(condition=YES)), [((), YES)])
        self.assertEqual(values_in(condition=("same", A, A)), [A, A])
        self.assertEqual((all_of(), all_of(YES, YES)), (YES, ("and", YES, YES)))

    def test_systems_and_tables(self):
        system = System(comparisons=[("a", "b", 1)])
        self.assertEqual(system.least(right="b", left="a"), 1)
        self.assertEqual(system.on(unknowns=["a"]).told(), "true")
        self.assertIs(system.within(other=System()), True)
        table = Table(rows=[(1, 2)], columns=["end"])
        self.assertEqual(table.at(key=1), (1, 2))
        self.assertEqual(Table.empty("end").columns, ("key", "end"))

    def test_procedures_and_runs(self):
        procedure = Procedure(statements=[("clear", ALL, YES)], arguments=[], columns=["end"])
        self.assertEqual((len(procedure.first(n=0)), len(procedure.without(n=0))), (0, 0))
        table = Table(["end"], [(1, 2)])
        self.assertEqual(run(table=table, procedure=procedure), (("returned", []), Table(["end"])))
        self.assertEqual([len(each) for each in walk(table=table, procedure=procedure)], [1, 0])

    def test_rules_cases_and_verdicts(self):
        rules, table = Rules(columns=["end"], nexts=[YES], rows=[YES]), Table(["end"])
        self.assertEqual((rules.keeps(table=table), rules.broken(table=table)), (True, None))
        self.assertEqual((len(rules.some()), len(Rules.bare("end"))), (0, 0))
        procedure = Procedure(["end"], [], [])
        self.assertEqual(len(cases_of(many=1, procedure=procedure, rules=rules)), 1)
        case = Case(ending=("failed", "x"), many=0, rows=[], arguments=[], system=System())
        self.assertIs(case.matches(table=table), True)
        question = Never(word="x", procedure=procedure)
        self.assertEqual(Verdict(rules=rules, question=question).told(), "unknown")
        self.assertEqual(len(Yes(rules=rules, question=question).cases(many=0)), 1)
        self.assertIs(No(numbers=(), table=table, rules=rules, question=question).shows(), False)

    def test_questions_meetings_regions_and_needs(self):
        rules, table, one = Rules([]), Table([]), Procedure([], [], [])
        for kind in (Keeps, Never, Twice, Again):
            self.assertIs(kind(procedure=one).ask(rules=rules).holds, True)
            self.assertIs(kind(procedure=one).fails(table=table, rules=rules), False)
        for kind in (Alike, Undone, Exchanged, Woven):
            self.assertIs(kind(other=one, one=one).ask(rules=rules).holds, True)
            self.assertIs(kind(other=one, one=one).fails(table=table, rules=rules), False)
        self.assertEqual(Woven(one=one, other=one).woven(table=table, weaving=""),
                         (("returned", []), ("returned", []), table))
        outlook = Outlook(procedure=one, rules=rules)
        self.assertEqual((outlook.may_fail(word="x"), outlook.may_fail(word=None), outlook.may_return()),
                         (False, False, True))
        self.assertEqual(spare(procedure=one, rules=rules), [])
        self.assertEqual(least_rules(rules=rules, question=Never(one)), [()])

    def test_texts_pages_shelves_and_desks(self):
        rules, table, procedure = Rules([]), Table([]), Procedure([], [], [])
        for write, read, thing in ((rules_text, read_rules, {"rules": rules}),
                                   (table_text, read_table, {"table": table}),
                                   (procedure_text, read_procedure, {"procedure": procedure})):
            self.assertEqual(read(text=write(**thing)), *thing.values())
        shelf = Shelf(limit=5)
        shelf.apply(("enter", "one", rules), ("enter", "two", procedure))
        self.assertEqual((shelf.kind(name="one"), shelf.entry(name="one"), shelf.set_limit(value=6)),
                         ("rules", rules, None))
        with self.assertRaises(errors.InvalidArguments):
            shelf.asked(rules="one", word="never")
        self.assertTrue(read_page(text=write_page(shelf=shelf)) == shelf)
        desk = Desk(shelf=shelf)
        self.assertEqual((desk.say(line="names"), desk(line="kind one")), ("one two", "rules"))


if __name__ == "__main__":
    unittest.main()
