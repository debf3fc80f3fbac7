"""Tests of lookedrows.verdicts."""

import itertools
import random
import unittest

from lookedrows.errors import InvalidCount
from lookedrows.rules import Rules
from lookedrows.systems import System
from lookedrows.tables import Table
from lookedrows.verdicts import No, Verdict, Yes

KEY, END = ("own", "key"), ("own", "end")
GREAT = 10 ** 30


class Asked:
    """A question of the tests' own: it fails for tables of two rows, where the arguments have the sum 3."""

    breadth = 3

    def __init__(self):
        self.heard = []

    def fails(self, rules, table, *numbers):
        self.heard.append((rules, table, numbers))
        return len(table) == 2 and sum(numbers) == 3


class TestVerdicts(unittest.TestCase):

    def setUp(self):
        self.rules = Rules(["end"], rows=[("below", KEY, END)])
        self.asked = Asked()
        self.table = Table(["end"], [(1, 2), (3, 4)])

    def test_the_base_class(self):
        verdict = Verdict(self.asked, self.rules)
        self.assertIs(verdict.question, self.asked)
        self.assertIs(verdict.rules, self.rules)
        self.assertIs(verdict.holds, False)
        self.assertEqual(verdict.told(), "unknown")
        self.assertEqual(repr(verdict), "Verdict(unknown)")
        self.assertIs(Verdict(rules=self.rules, question=self.asked).question, self.asked)

    def test_yes(self):
        verdict = Yes(self.asked, self.rules)
        self.assertIsInstance(verdict, Verdict)
        self.assertIs(verdict.question, self.asked)
        self.assertIs(verdict.rules, self.rules)
        self.assertIs(verdict.holds, True)
        self.assertEqual(verdict.told(), "yes")
        self.assertEqual(repr(verdict), "Verdict(yes)")
        self.assertNotIsInstance(verdict, No)

    def test_no(self):
        numbers = [1, 2]
        verdict = No(self.asked, self.rules, self.table, numbers)
        numbers.append(3)
        self.assertIsInstance(verdict, Verdict)
        self.assertNotIsInstance(verdict, Yes)
        self.assertIs(verdict.question, self.asked)
        self.assertIs(verdict.rules, self.rules)
        self.assertIs(verdict.holds, False)
        self.assertEqual(verdict.told(), "no")
        self.assertEqual(repr(verdict), "Verdict(no)")
        self.assertEqual(verdict.table, self.table)
        self.assertEqual(verdict.numbers, (1, 2))
        self.assertIs(type(verdict.numbers), tuple)
        self.assertEqual(No(self.asked, self.rules, self.table, (GREAT,)).numbers, (GREAT,))
        self.assertEqual(No(self.asked, self.rules, self.table, []).numbers, ())

    def test_shows(self):
        self.assertIs(No(self.asked, self.rules, self.table, [1, 2]).shows(), True)
        self.assertEqual(self.asked.heard, [(self.rules, self.table, (1, 2))])
        self.assertIs(No(self.asked, self.rules, self.table, (2, 2)).shows(), False)
        self.assertIs(No(self.asked, self.rules, self.table - [1], (1, 2)).shows(), False)
        # A table that does not keep the rules shows nothing, nor does one with other columns.
        self.assertIs(No(self.asked, self.rules, Table(["end"], [(1, 2), (3, 3)]), (1, 2)).shows(), False)
        self.assertIs(No(self.asked, self.rules, Table(["ends"], [(1, 2), (3, 4)]), (1, 2)).shows(), False)

    def test_cases_of_yes(self):
        nexts = [("or", ("below", END, ("next", "key")), ("same", END, ("next", "end")))]
        for rules in (self.rules, Rules(["end"]), Rules(["end"], rows=[("atmost", END, ("number", 2))], nexts=nexts)):
            verdict = Yes(self.asked, rules)
            for many in range(4):
                systems = verdict.cases(many)
                self.assertIs(type(systems), list)
                self.check_systems(rules, many, systems)
                systems.append(None)
                self.assertNotIn(None, verdict.cases(many=many))

    def check_systems(self, rules, many, systems):
        dice = random.Random(many)
        for system in systems:
            self.assertIsInstance(system, System)
            example = system.example()
            rows = [tuple(example.get(f"{at}.{column}", 5) for column in rules.columns) for at in range(many)]
            self.assertEqual(rows, Table(["end"], rows).rows())
            self.assertTrue(rules.keeps(Table(["end"], rows)))
        for keys in itertools.combinations(range(4), many):
            for _ in range(20):
                table = Table(["end"], [(key, dice.randint(-1, 4)) for key in keys])
                known = {f"{at}.{column}": cell for at, row in enumerate(table.rows()) for column,
                         cell in zip(table.columns, row)}
                self.assertEqual(sum(known in system for system in systems), rules.keeps(table))

    def test_wrong_counts(self):
        verdict = Yes(self.asked, self.rules)
        for many in (-1, 4, GREAT, -GREAT, True, False, None, "", "1", (), (1,), [1]):
            with self.assertRaises(InvalidCount) as caught:
                verdict.cases(many)
            self.assertIs(caught.exception.given, many)
            self.assertEqual(caught.exception.code, "InvalidCount")


if __name__ == "__main__":
    unittest.main()
