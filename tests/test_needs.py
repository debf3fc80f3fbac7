"""Tests of lookedrows.needs."""

import itertools
import random
import unittest

from lookedrows.errors import ColumnsDiffer, NotCarried, TooWide
from lookedrows.meetings import Exchanged, Woven
from lookedrows.needs import least_rules, spare
from lookedrows.procedures import Procedure
from lookedrows.questions import Again, Alike, Keeps, Never, Twice, Undone
from lookedrows.rules import Rules
from players import Worker, question_of, some_procedures, some_rules

A, B, ONE = ("name", "a"), ("name", "b"), ("number", 1)
KEY, END = ("own", "key"), ("own", "end")
NEXT_KEY, NEXT_END = ("next", "key"), ("next", "end")
YES, ALL = ("true",), (None, None)
FIND = ("find", "r", "first", ALL, YES)
STEP = ("step", "r", "next", "r")


class TestSpare(unittest.TestCase):

    def test_against_alike(self):
        seen = {True: 0, False: 0}
        for seed in range(120):
            dice = random.Random(seed)
            columns = dice.choice([(), ("end",)])
            procedure = Worker(dice, columns=columns, arguments=("a",), names=("r", "s")).procedure(4, 4)
            rules = some_rules(dice, columns)
            told = spare(rules, procedure)
            self.assertIs(type(told), list)
            right = []
            for index in range(len(procedure)):
                holds = Alike(procedure, procedure.without(index)).ask(rules).holds
                right += [index] if holds else []
                seen[holds] += 1
            self.assertEqual(told, right)
            told.append(None)
            self.assertEqual(spare(procedure=procedure, rules=rules), right)
        self.assertGreater(min(seen.values()), 60)

    def test_by_hand(self):
        clears = [("clear", (A, None), YES), ("clear", (("plus", A, 1), None), YES)]
        for statements, told in (
            ([], []), (clears, [1]), (clears[::-1], [0]), (clears + clears, [0, 1, 2, 3]),
            (clears + [("fail", "no")], [0, 1]), ([("fail", "no"), ("fail", "no")], [0, 1]),
            ([("return", ())], [0]), ([("return", (A,))], []), ([("return", ()), clears[0]], [1]),
            ([FIND, FIND], [0, 1]), ([FIND, FIND, ("return", (("field", "r", "key"),))], [0, 1]),
            ([FIND, ("return", (("field", "r", "key"),))], []),
        ):
            self.assertEqual(spare(Rules([]), Procedure([], ["a"], statements)), told, statements)
        few = Rules([], rows=[("atmost", KEY, ONE)])
        self.assertEqual(spare(few, Procedure([], ["a"], [("clear", (("number", 2), None), YES)])), [0])

    def test_errors(self):
        for columns in ([], ["ends"], ["end", "x"]):
            for many in (0, 7):
                self.assertRaises(ColumnsDiffer, spare, Rules(columns), Procedure(["end"], [], [STEP] * many))
        for many in range(13):
            procedure = Procedure(["end"], [], [STEP] * many)
            if many <= 6:
                self.assertEqual(spare(Rules(["end"]), procedure), list(range(many)))
            else:
                with self.assertRaises(TooWide) as caught:
                    spare(Rules(["end"]), procedure)
                self.assertEqual((caught.exception.most, caught.exception.code), (12, "TooWide"))


class TestLeastRules(unittest.TestCase):

    def right(self, question, rules):
        """All sets for which the question holds, and in which no other such set lies, by asking for each set."""
        holding = []
        for many in range(len(rules) + 1):
            for indexes in itertools.combinations(range(len(rules)), many):
                try:
                    if question.ask(rules.some(*indexes)).holds:
                        holding.append(indexes)
                except NotCarried:
                    pass
        return [one for one in holding if not any(set(other) < set(one) for other in holding)]

    def check(self, question, rules):
        told = least_rules(question, rules)
        self.assertEqual(told, self.right(question, rules), (question, rules.rows(), rules.nexts()))
        self.assertIs(type(told), list)
        self.assertTrue(all(type(indexes) is tuple for indexes in told))
        return told

    def test_random_questions(self):
        seen = {}
        for seed in range(180):
            dice = random.Random(seed)
            topic = dice.choice(["alike", "alike", "keeps", "never", "twice", "again", "undone", "exchanged"])
            procedures = some_procedures(dice, topic, ("end",))
            if seed % 4 == 0 and topic == "alike":
                procedures[1] = procedures[0].first(max(0, len(procedures[0]) - 1))
            told = self.check(question_of(topic, procedures), some_rules(dice, ("end",)))
            if topic == "keeps":
                # Without rules all tables keep them.
                self.assertEqual(told, [()])
            kind = max((len(indexes) for indexes in told), default=-1)
            seen[kind] = seen.get(kind, 0) + 1
        for kind in (-1, 0, 1):
            self.assertGreater(seen[kind], 5, seen)

    def test_by_hand(self):
        low, high, wide = ("below", ("number", 0), KEY), ("below", KEY, ("number", 2)), ("atmost", KEY, ("number", 5))
        never = Never(Procedure([], [], [FIND, STEP, ("if", ("found", "r"), [("fail", "x")], [])]), word="x")
        self.assertEqual(self.check(never, Rules([], rows=[low, high, wide])), [(0, 1)])
        self.assertEqual(self.check(never, Rules([], rows=[low, wide])), [])
        self.assertEqual(self.check(never, Rules([], rows=[wide, low, high, low])), [(1, 2), (2, 3)])
        self.assertEqual(self.check(never, Rules([], nexts=[("below", NEXT_KEY, KEY), ("not", YES)])), [(0,), (1,)])
        self.assertEqual(self.check(Never(Procedure([], [], [])), Rules([], rows=[low, high])), [()])
        self.assertEqual(self.check(Never(Procedure([], [], [("fail", "x")])), Rules([], rows=[low, high])), [])
        put = Keeps(Procedure([], ["a"], [("if", ("below", ("number", 0), A), [("insert", "r", (A,))], [])]))
        self.assertEqual(self.check(put, Rules([], rows=[low, high])), [()])
        self.assertEqual(put.ask(Rules([], rows=[low, high])).holds, False)

    def test_sets_that_do_not_carry_are_left_out(self):
        ones = ("atmost", ONE, END)
        slow = ("atmost", NEXT_KEY, ("plus", ("next", "end"), 9))
        climbs = ("or", ("below", END, NEXT_END), ("same", NEXT_END, ONE))
        # The second rule alone does not carry; together with a row rule it does.
        top = ("atmost", END, ("number", 0))
        rules = Rules(["end"], rows=[ones, top], nexts=[climbs, slow])
        never = Never(Procedure(["end"], [], [FIND, STEP, ("if", ("found", "r"), [("fail", "x")], [])]), word="x")
        told = self.check(never, rules)
        self.assertEqual(told, [(0, 1)])
        self.assertRaises(NotCarried, rules.some, 2)

    def test_other_questions(self):
        rules = Rules(["end"], rows=[("below", KEY, END), ("atmost", ("number", 0), KEY)],
                      nexts=[("atmost", END, NEXT_KEY)])
        one = Procedure(["end"], ["a"], [("find", "r", "first", (None, A), ("below", A, END)), ("if", ("found", "r"), [
            ("delete", "r")], [])])
        other = Procedure(["end"], ["a"], [("find", "r", "last", (None, A), ("below", A, END)), ("if", ("found", "r"), [
            ("delete", "r")], [])])
        for question, told in (
            (Alike(one, other), [(2,)]), (Twice(one), [(2,)]), (Again(one), [(2,)]), (Exchanged(one, one), [()]),
            (Undone(one, other), []), (Woven(Procedure(["end"], [], []), other), [()]), (Keeps(one), [()]),
        ):
            self.assertEqual(self.check(question, rules), told, question)

    def test_new_lists_and_by_name(self):
        rules = Rules([])
        question = Never(Procedure([], [], []))
        least_rules(question, rules).append(None)
        self.assertEqual(least_rules(rules=rules, question=question), [()])

    def test_errors(self):
        wide = Procedure(["end"], [], [STEP] * 7)
        for columns in ([], ["ends"], ["end", "x"]):
            self.assertRaises(ColumnsDiffer, least_rules, Twice(wide), Rules(columns))
        for question, most in ((Twice(wide), 12), (Woven(Procedure(["end"], [], [("if", YES, [], [])] * 4), Procedure(
                ["end"], [], [("if", YES, [], [])] * 4)), 20)):
            with self.assertRaises(TooWide) as caught:
                least_rules(question, Rules(["end"], rows=[YES]))
            self.assertEqual(caught.exception.most, most)


if __name__ == "__main__":
    unittest.main()
