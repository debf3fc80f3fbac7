"""Tests of lookedrows.cases."""

import itertools
import random
import unittest

from helpers import Maker, RuleMaker
from lookedrows.cases import Case, cases_of
from lookedrows.errors import ColumnsDiffer, InvalidArguments, InvalidCount, NotCarried
from lookedrows.procedures import Procedure
from lookedrows.rules import Rules
from lookedrows.running import run
from lookedrows.systems import System
from lookedrows.tables import Table

A, B, C = ("name", "a"), ("name", "b"), ("name", "c")
KEY, END, ONE = ("own", "key"), ("own", "end"), ("number", 1)
YES, ALL = ("true",), (None, None)
GREAT = 10 ** 30
SPANS = Rules(["end"], rows=[("below", KEY, END)], nexts=[("atmost", END, ("next", "key"))])
BOOK = Procedure(["end"], ["a", "b"], [
    ("find", "r", "first", (None, B), ("below", A, END)),
    ("if", ("found", "r"), (("fail", "busy"),), (("insert", "s", (A, B)),))])


def tables_of(columns, many, high):
    """All tables of so many rows with integers from 0 to below high."""
    found = []
    for keys in itertools.combinations(range(high), many):
        for cells in itertools.product(itertools.product(range(high), repeat=len(columns)), repeat=many):
            found.append(Table(columns, [(key, *more) for key, more in zip(keys, cells)]))
    return found


def known_of(table, procedure, numbers):
    """The dict from the cells of a table and the arguments to their integers."""
    known = {f"{at}.{column}": cell for at, row in enumerate(table.rows()) for column, cell in zip(table.columns, row)}
    return known | dict(zip(procedure.arguments, numbers)) | {"": 0}


def put_in(pairs, known):
    return [known[unknown] + k for unknown, k in pairs]


class Checks(unittest.TestCase):

    def check(self, rules, procedure, many, points):
        """Checks the cases of so many rows: their form, against the runs on some points, and by their examples."""
        cases = cases_of(rules, procedure, many)
        self.assertIs(type(cases), list)
        unknowns = {f"{at}.{column}" for at in range(many) for column in rules.columns} | set(procedure.arguments)
        for case in cases:
            self.check_form(case, unknowns, many, len(rules.columns))
        for table, numbers in points:
            self.check_point(rules, procedure, cases, table, numbers)
        for case in cases:
            self.check_example(rules, procedure, cases, case, many)
        return cases

    def check_form(self, case, unknowns, many, size):
        self.assertIsInstance(case, Case)
        self.assertIsInstance(case.system, System)
        self.assertTrue(case.system.is_open)
        self.assertLessEqual(set(case.system.unknowns()), unknowns)
        word, told = case.ending
        self.assertIn(word, ("returned", "failed"))
        self.assertEqual(repr(case), f"Case({word})")
        pairs = [pair for row in case.rows() for pair in row] + (list(told) if word == "returned" else [])
        for pair in pairs:
            self.assertIs(type(pair), tuple)
            self.assertIn(pair[0], unknowns | {""})
            self.assertIs(type(pair[1]), int)
        for row in case.rows():
            self.assertEqual((type(row), len(row)), (tuple, size))
        if word == "failed":
            self.assertEqual(len(case.rows()), many)

    def check_point(self, rules, procedure, cases, table, numbers):
        """Exactly one case matches a table that keeps the rules, none one that does not; the run is as it tells."""
        matching = [case for case in cases if case.matches(table, *numbers)]
        if not rules.keeps(table):
            self.assertEqual(matching, [])
            return
        self.assertEqual(len(matching), 1, (procedure.statements(), table.rows(), numbers))
        case = matching[0]
        known = known_of(table, procedure, numbers)
        ending, behind = run(procedure, table, *numbers)
        word, told = case.ending
        self.assertEqual((word, put_in(told, known) if word == "returned" else told), ending)
        self.assertEqual([tuple(put_in(row, known)) for row in case.rows()], behind.rows(),
                         (procedure.statements(), table.rows()))

    def check_example(self, rules, procedure, cases, case, many):
        """What solves a system is a table and arguments of its case, whatever has no part in it."""
        example = case.system.example()
        for other in (0, 7, -GREAT):
            rows = [tuple(example.get(f"{at}.{column}", other + at) for column in rules.columns) for at in range(many)]
            numbers = [example.get(name, other) for name in procedure.arguments]
            self.assertEqual(rows, sorted(rows))
            table = Table(rules.columns[1:], rows)
            self.assertEqual(table.rows(), rows)
            self.assertTrue(rules.keeps(table))
            self.check_point(rules, procedure, cases, table, numbers)
            self.assertTrue(case.matches(table, *numbers))

    def points(self, columns, arguments, many, high, dice, most):
        """All tables and arguments of a small grid, or some of them, if there are more than the most."""
        tables = tables_of(columns, many, high)
        if len(tables) * high ** arguments <= most:
            given = list(itertools.product(range(high), repeat=arguments))
            return [(table, numbers) for table in tables for numbers in given]
        return [(dice.choice(tables), [dice.randrange(high) for _ in range(arguments)]) for _ in range(most)]


class TestCasesOf(Checks):

    def test_booking_over_a_whole_grid(self):
        for many, high, most in ((0, 4, 10 ** 9), (1, 4, 10 ** 9), (2, 4, 10 ** 9), (3, 5, 6000)):
            points = self.points(["end"], 2, many, high, random.Random(1), most)
            cases = self.check(SPANS, BOOK, many, points)
            endings = {case.ending[1] if case.ending[0] == "failed" else "returned" for case in cases}
            self.assertEqual(endings, {"returned"} if many == 0 else {"returned", "busy", "taken"})

    def test_keys_alone_over_a_whole_grid(self):
        tell = ("return", (("field", "r", "key"), ("plus", A, 2), ONE))
        for statements in (
            [("insert", "r", [A]), ("step", "s", "next", "r"), ("delete", "s")],
            [("move", A, -2), ("find", "r", "last", ALL, YES), tell],
            [("move", A, 1), ("move", ("plus", A, 2), -2)],
            [("clear", (A, ("plus", A, 2)), ("not", ("same", KEY, ONE)))],
            [("find", "r", "first", (A, None), YES), ("if", ("same", ("field", "r", "key"), A), [("delete", "r")],
                                                      [tell])],
            [("return", (("plus", A, -3), ("number", 4)))], [],
        ):
            procedure = Procedure([], ["a"], statements)
            for many in range(4):
                points = self.points([], 1, many, 6, None, 10 ** 9)
                self.check(Rules([]), procedure, many, points)
                gaps = Rules([], rows=[("not", ("same", KEY, ("number", 3)))],
                             nexts=[("below", ("plus", KEY, 1), ("next", "key"))])
                self.check(gaps, procedure, many, points)

    def test_fields_moves_changes_and_inserts(self):
        field = ("field", "r", "end")
        for statements in (
            [("find", "r", "last", (None, A), YES), ("change", ALL, ("below", END, field), "end", ("plus", field, 1)),
             ("return", [field])],
            [("find", "r", "first", ALL, ("same", END, A)), ("move", field, 2),
             ("set", "r", "end", ("field", "r", "key"))],
            [("insert", "r", (A, A)), ("move", A, -1), ("change", (A, None), YES, "end", ("plus", KEY, -1))],
            [("find", "r", "first", ALL, ("below", KEY, END)),
             ("clear", (("field", "r", "key"), None), ("atmost", END, field))],
        ):
            procedure = Procedure(["end"], ["a"], statements)
            for many in range(4):
                points = self.points(["end"], 1, many, 4, random.Random(3), 400)
                self.check(Rules(["end"]), procedure, many, points)
                self.check(Rules(["end"], rows=[("atmost", END, ("number", 2))],
                                 nexts=[("atmost", END, ("next", "end"))]), procedure, many, points)

    def test_random_procedures_and_rules(self):
        seen = {}
        for seed in range(250):
            dice = random.Random(seed)
            columns = dice.choice([(), ("end",), ("end",), ("x", "y")])
            maker = Maker(dice, columns=columns, arguments=("a", "b")[:dice.randint(0, 2)])
            statements = maker.finds()[:dice.randint(0, 2)] + maker.body(dice.randint(1, 2), fields=dice.random() < 0.5)
            procedure = Procedure(columns, maker.arguments, statements)
            rows, nexts = RuleMaker(dice, columns=columns).rules(dice.randint(0, 1), dice.randint(0, 1))
            try:
                rules = Rules(columns, rows=rows, nexts=nexts)
            except NotCarried:
                rules = Rules(columns)
            for many in range(4 if len(columns) < 2 else 3):
                points = self.points(columns, len(maker.arguments), many, 4, dice, 60)
                for case in self.check(rules, procedure, many, points):
                    word = case.ending[1] if case.ending[0] == "failed" else "returned"
                    seen[word] = seen.get(word, 0) + 1
        for word, least in (("returned", 500), ("none", 100), ("taken", 100), ("order", 20), ("gone", 3)):
            self.assertGreater(seen[word], least, seen)

    def test_more_rows(self):
        dice = random.Random(5)
        for many in (4, 5, 6):
            cases = cases_of(SPANS, BOOK, many)
            for case in cases:
                self.check_example(SPANS, BOOK, cases, case, many)
            for _ in range(100):
                cuts = sorted(dice.sample(range(20), 2 * many))
                table = Table(["end"], list(zip(cuts[::2], cuts[1::2])))
                self.check_point(SPANS, BOOK, cases, table, [dice.randint(-1, 20), dice.randint(-1, 20)])

    def test_rules_that_no_row_keeps(self):
        never = Rules(["end"], rows=[("not", YES)])
        self.assertEqual(len(cases_of(never, BOOK, 0)), 1)
        for many in range(1, 7):
            self.assertEqual(cases_of(never, BOOK, many), [])
        single = Rules(["end"], nexts=[("below", ("next", "key"), KEY)])
        self.assertEqual([len(cases_of(single, Procedure(["end"], [], []), many)) for many in range(4)], [1, 1, 0, 0])

    def test_what_has_no_part_in_a_case(self):
        procedure = Procedure(["end"], ["a", "b"], [("return", [B])])
        for many in range(4):
            cases = cases_of(Rules(["end"]), procedure, many)
            self.assertEqual(len(cases), 1)
            self.assertEqual(cases[0].ending, ("returned", [("b", 0)]))
            for numbers in ((0, 0), (GREAT, -GREAT)):
                self.assertTrue(cases[0].matches(Table(["end"], [(at, -GREAT * at) for at in range(many)]), *numbers))

    def test_many_by_name_and_equal_calls(self):
        told, again = [[(case.system.told(), case.ending, case.rows()) for case in cases]
                       for cases in (cases_of(SPANS, BOOK, 2), cases_of(many=2, procedure=BOOK, rules=SPANS))]
        self.assertEqual(told, again)

    def test_errors(self):
        for other in (Rules([]), Rules(["ends"]), Rules(["end", "a"])):
            for many in (0, 7, None):
                with self.assertRaises(ColumnsDiffer):
                    cases_of(other, BOOK, many)
        self.assertRaises(ColumnsDiffer, cases_of, Rules(["a", "b"]), Procedure(["b", "a"], [], []), 0)
        for many in (-1, 7, GREAT, -GREAT, True, False, None, "", "1", (), (1,), [1]):
            with self.assertRaises(InvalidCount) as caught:
                cases_of(SPANS, BOOK, many)
            self.assertIs(caught.exception.given, many)
            self.assertEqual(caught.exception.code, "InvalidCount")

    def test_new_lists(self):
        cases = cases_of(SPANS, BOOK, 1)
        cases[0].rows().append(None)
        returned = [case for case in cases if case.ending[0] == "returned"][0]
        returned.ending[1].append(None)
        self.assertEqual(returned.ending, ("returned", []))
        size = len(cases)
        cases.append(None)
        self.assertEqual(len(cases_of(SPANS, BOOK, 1)), size)
        for case in cases[:-1]:
            self.assertNotIn(None, case.rows())


class TestCase(unittest.TestCase):

    def test_parts(self):
        system = System([("a", "0.key", 1)])
        rows, told, arguments = [(("0.key", 0), ("", 5))], [("a", 1), ("", -2)], ["a", "b"]
        case = Case(system, ("returned", told), rows, arguments=arguments, many=1)
        for each in (rows, told, arguments):
            each.append(None)
        self.assertEqual(case.system, system)
        self.assertIs(type(case.ending), tuple)
        self.assertEqual(case.ending, ("returned", [("a", 1), ("", -2)]))
        self.assertIs(type(case.ending[1]), list)
        case.ending[1].append(None)
        case.rows().append(None)
        self.assertEqual(case.ending, ("returned", [("a", 1), ("", -2)]))
        self.assertEqual(case.rows(), [(("0.key", 0), ("", 5))])
        self.assertIs(type(case.rows()), list)
        self.assertEqual(repr(case), "Case(returned)")
        self.assertTrue(case.matches(Table(["end"], [(3, 0)]), 4, 9))
        failed = Case(ending=("failed", "busy"), system=system, rows=())
        self.assertEqual((failed.ending, failed.rows(), repr(failed)), (("failed", "busy"), [], "Case(failed)"))
        self.assertEqual(Case(system, ("returned", ()), []).ending, ("returned", []))

    def test_matches(self):
        case = Case(System([("a", "0.key", 1), ("1.end", "", 3)]), ("returned", []), [], arguments=("a", "b"), many=2)
        good = Table(["end"], [(5, 0), (6, 3)])
        self.assertIs(case.matches(good, 6, 0), True)
        self.assertIs(case.matches(good, 6, GREAT ** 2), True)
        self.assertIs(case.matches(good, 7, 0), False)
        self.assertIs(case.matches(Table(["end"], [(5, 0), (6, 4)]), 6, 0), False)
        self.assertIs(case.matches(good + [(9, 9)], 6, 0), False)
        self.assertIs(case.matches(good - [6], 6, 0), False)
        self.assertIs(case.matches(Table(["end"]), 6, 0), False)
        self.assertIs(case.matches(good - [5] + [(7, 3)], 8, 0), False)
        none = Case(System(), ("returned", []), [])
        self.assertIs(none.matches(Table([])), True)
        self.assertIs(none.matches(Table([], [(1,)])), False)

    def test_wrong_arguments(self):
        case = Case(System(), ("returned", []), [], arguments=["a", "b"], many=0)
        for table in (Table([]), Table([], [(1,)])):
            for numbers in ((), (1,), (1, 2, 3), (True, 1), (1, False), (None, 1), (1, ""), ("1", 1), ((1,), 1),
                            (1, [2])):
                with self.assertRaises(InvalidArguments) as caught:
                    case.matches(table, *numbers)
                self.assertEqual(caught.exception.code, "InvalidArguments")
        self.assertRaises(InvalidArguments, Case(System(), ("returned", []), []).matches, Table([]), 1)
        self.assertIs(case.matches(Table([]), 1, -GREAT ** 2), True)


if __name__ == "__main__":
    unittest.main()
