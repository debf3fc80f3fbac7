"""Tests of lookedrows.questions: what all questions have in common."""

import unittest

from lookedrows.errors import ColumnsDiffer, InvalidArguments
from lookedrows.procedures import Procedure
from lookedrows.questions import Question
from lookedrows.rules import Rules
from lookedrows.tables import Table
from lookedrows.verdicts import No, Yes

MOVE = ("move", ("name", "a"), 1)


class TestQuestion(unittest.TestCase):

    def setUp(self):
        self.one = Procedure(["end"], ["b", "a"], [MOVE, ("step", "r", "next", "r")])
        self.other = Procedure(["end"], ["c", "a", "b"], [MOVE])
        self.question = Question(self.one, self.other)

    def test_parts(self):
        self.assertEqual(self.question.procedures(), [self.one, self.other])
        self.question.procedures().append(None)
        self.assertEqual(self.question.procedures(), [self.one, self.other])
        self.assertEqual(self.question.columns, ("key", "end"))
        self.assertEqual(self.question.arguments, ("b", "a", "c"))
        self.assertEqual(Question(self.other, self.one).arguments, ("c", "a", "b"))
        self.assertEqual(Question(self.one).arguments, ("b", "a"))
        self.assertEqual(self.question.looks, 5)
        self.assertEqual(self.question.topic, "question")
        self.assertEqual(repr(self.question), "Question(question)")

    def test_columns_differ(self):
        for columns in ([], ["ends"], ["end", "x"]):
            self.assertRaises(ColumnsDiffer, Question, self.one, Procedure(columns, ["a"], [MOVE]))
        self.assertRaises(ColumnsDiffer, Question, Procedure(["a", "b"], [], []), Procedure(["b", "a"], [], []))

    def test_fails(self):
        rules, table = Rules(["end"]), Table(["end"])
        self.assertIs(self.question.fails(rules, table, 1, 2, 3), False)
        for wrong in ((1, 2), (1, 2, 3, 4), (1, 2, True), (1, None, 3), ("1", 2, 3)):
            self.assertRaises(InvalidArguments, self.question.fails, rules, table, *wrong)
        for numbers in ((1, 2, 3), ()):
            self.assertRaises(ColumnsDiffer, self.question.fails, Rules([]), table, *numbers)
            self.assertRaises(ColumnsDiffer, self.question.fails, rules, Table(["ends"]), *numbers)

    def test_verdicts_on_it(self):
        rules = Rules(["end"])
        self.assertEqual(len(Yes(self.question, rules).cases(5)), 1)
        self.assertIs(No(self.question, rules, Table(["end"]), (1, 2, 3)).shows(), False)


if __name__ == "__main__":
    unittest.main()
