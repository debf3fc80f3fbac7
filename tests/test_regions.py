"""Tests of lookedrows.regions."""

import itertools
import random
import unittest

from helpers import BOUND, Maker, all_broken
from lookedrows.cases import cases_of
from lookedrows.errors import ColumnsDiffer, InvalidArguments, TooWide
from lookedrows.procedures import Procedure
from lookedrows.regions import Outlook
from lookedrows.rules import Rules
from lookedrows.systems import System
from players import Worker, grid_rows, play, some_rules

A, B = ("name", "a"), ("name", "b")
KEY, END, NEXT_KEY = ("own", "key"), ("own", "end"), ("next", "key")
YES, ALL = ("true",), (None, None)
FIND = ("find", "r", "first", ALL, YES)
STEP = ("step", "r", "next", "r")
SPANS = Rules(["end"], rows=[("below", KEY, END)], nexts=[("atmost", END, NEXT_KEY)])
BOOK = Procedure(["end"], ["a", "b"], [
    ("find", "r", "first", (None, B), ("below", A, END)),
    ("if", ("found", "r"), (("fail", "busy"),), (("insert", "s", (A, B)),))])


def solved_by(systems, known):
    return any(known in system for system in systems)


class Outlooks(unittest.TestCase):

    def check_systems(self, systems, arguments):
        self.assertIs(type(systems), list)
        for system in systems:
            self.assertIsInstance(system, System)
            self.assertTrue(system.is_open)
            self.assertLessEqual(set(system.unknowns()), set(arguments))

    def check_point(self, outlook, arguments, numbers, words):
        """Checks what is told of some arguments, for which these words and, perhaps, returned can come about."""
        known = dict(zip(arguments, numbers))
        failures = words - {"returned"}
        self.assertIs(outlook.may_return(*numbers), "returned" in words, numbers)
        self.assertIs(solved_by(outlook.returns(), known), "returned" in words)
        self.assertIs(outlook.may_fail(*numbers), failures != set())
        self.assertIs(outlook.may_fail(*numbers, word=None), failures != set())
        self.assertIs(solved_by(outlook.fails(), known), failures != set())
        self.assertIs(outlook.surely_returns(*numbers), failures == set())
        for word in {*outlook.words(), "busy", "zzz", "none"}:
            self.assertIs(outlook.may_fail(*numbers, word=word), word in failures, (word, numbers))
            self.assertIs(solved_by(outlook.fails(word), known), word in failures)
            self.assertIs(solved_by(outlook.fails(word, word), known), word in failures)
        some = outlook.words()[:2]
        if some:
            self.assertIs(solved_by(outlook.fails(*some, "zzz", some[0]), known), not failures.isdisjoint(some))

    def check_form(self, outlook, arguments):
        self.check_systems(outlook.returns(), arguments)
        self.check_systems(outlook.fails(), arguments)
        words = outlook.words()
        self.assertEqual((type(words), words), (list, sorted(set(words))))
        for word in words:
            self.check_systems(outlook.fails(word), arguments)
            self.assertTrue(outlook.fails(word))
        self.assertEqual(outlook.fails("zzz"), [])


class TestOutlook(Outlooks):

    def test_against_runs_over_a_grid(self):
        """With few looks and small numbers, tables of a grid lead to all that can come about, and to no more."""
        seen = {}
        for seed in range(120):
            dice = random.Random(seed)
            columns = dice.choice([(), ("end",)])
            arguments = ("a", "b")[:dice.randint(0, 2)]
            procedure = Worker(dice, columns=columns, arguments=arguments, names=("r", "s")).procedure(4)
            rules = some_rules(dice, columns)
            outlook = Outlook(rules, procedure)
            self.check_form(outlook, arguments)
            for _ in range(60):
                rows = Maker(dice, columns=columns).rows(dice.randint(0, 4))
                if all_broken(rules.columns, rules.rows(), rules.nexts(), rows):
                    continue
                numbers = [dice.randint(-2, 7) for _ in arguments]
                ending = play(procedure, rows, dict(zip(arguments, numbers)))[0]
                if ending[0] == "returned":
                    self.assertTrue(outlook.may_return(*numbers))
                else:
                    self.assertIn(ending[1], outlook.words())
                    self.assertTrue(outlook.may_fail(*numbers))
                    self.assertTrue(outlook.may_fail(*numbers, word=ending[1]))
                    self.assertFalse(outlook.surely_returns(*numbers))
                seen[ending[0]] = seen.get(ending[0], 0) + 1
        self.assertGreater(min(seen.values()), 200, seen)

    def test_against_cases(self):
        """All that can come about does so on a table of at most as many rows as there are looks."""
        seen = 0
        for seed in range(150):
            dice = random.Random(seed)
            columns = dice.choice([(), ("end",)])
            arguments = ("a", "b")[:dice.randint(0, 2)]
            procedure = Worker(dice, columns=columns, arguments=arguments, names=("r", "s")).procedure(3)
            rules = some_rules(dice, columns)
            outlook = Outlook(rules, procedure)
            regions = {}
            for many in range(procedure.looks + 1):
                for case in cases_of(rules, procedure, many):
                    word = "returned" if case.ending[0] == "returned" else case.ending[1]
                    regions.setdefault(word, []).append(case.system.on(arguments))
            self.assertEqual(outlook.words(), sorted(set(regions) - {"returned"}))
            seen += len(outlook.words())
            for numbers in itertools.product(range(-2, 8), repeat=len(arguments)):
                known = dict(zip(arguments, numbers))
                words = {word for word, systems in regions.items() if solved_by(systems, known)}
                self.check_point(outlook, arguments, numbers, words)
        self.assertGreater(seen, 40)

    def test_booking(self):
        outlook = Outlook(SPANS, BOOK)
        self.check_form(outlook, ["a", "b"])
        self.assertEqual(outlook.words(), ["busy", "taken"])
        for a, b in itertools.product(range(-3, 4), repeat=2):
            # With a < b a row with the key a is in the way; without, a row that begins at a is not found.
            words = {"returned", "busy"} if a <= b - 1 or a < b else {"returned", "taken"}
            if a >= b:
                # A row from below b to above a is found, too.
                words = {"returned", "busy", "taken"}
            self.check_point(outlook, ["a", "b"], (a, b), words)

    def test_without_arguments_and_without_failures(self):
        outlook = Outlook(Rules([]), Procedure([], [], []))
        self.assertEqual((outlook.returns(), outlook.fails(), outlook.words()), ([System()], [], []))
        self.assertEqual((outlook.may_return(), outlook.may_fail(), outlook.surely_returns()), (True, False, True))
        outlook = Outlook(rules=Rules([]), procedure=Procedure([], [], [("fail", "x"), ("fail", "y")]))
        self.assertEqual((outlook.returns(), outlook.fails(), outlook.words()), ([], [System()], ["x"]))
        self.assertEqual((outlook.may_return(), outlook.may_fail(), outlook.surely_returns()), (False, True, False))
        self.assertEqual((outlook.may_fail(word="x"), outlook.may_fail(word="y")), (True, False))
        outlook = Outlook(Rules([], rows=[("not", YES)]), Procedure([], [], [FIND, ("delete", "r")]))
        self.assertEqual((outlook.returns(), outlook.words()), ([], ["none"]))

    def test_words_alone_and_together(self):
        table = [("if", ("below", A, ("number", 0)), [("fail", "low")], []),
                 ("if", ("below", ("number", 9), A), [("fail", "high")], []), ("insert", "r", (A,))]
        outlook = Outlook(Rules([]), Procedure([], ["a"], table))
        self.assertEqual(outlook.words(), ["high", "low", "taken"])
        for a in range(-2, 13):
            word = "low" if a < 0 else "high" if a > 9 else "taken"
            self.check_point(outlook, ["a"], (a,), {word} | ({"returned"} if word == "taken" else set()))
            for words in (("low", "high"), ("high", "low", "high"), ("low", "zzz"), ("taken",)):
                self.assertIs(solved_by(outlook.fails(*words), {"a": a}), word in words)

    def test_new_lists_and_equal_calls(self):
        outlook = Outlook(SPANS, BOOK)
        told = [[system.told() for system in region] for region in (outlook.returns(), outlook.fails(),
                                                                    outlook.fails("busy"))]
        for each in (outlook.returns(), outlook.fails(), outlook.fails("busy"), outlook.words()):
            each.append(None)
        for again in (outlook, Outlook(SPANS, BOOK)):
            self.assertEqual([[system.told() for system in region] for region in (again.returns(), again.fails(),
                                                                                  again.fails("busy"))], told)
            self.assertEqual(again.words(), ["busy", "taken"])

    def test_great_integers(self):
        high = Rules([], rows=[("below", ("number", BOUND), KEY)])
        put = Procedure([], ["a"], [("insert", "r", (("plus", A, -BOUND),))])
        outlook = Outlook(high, put)
        for a, taken in ((2 * BOUND, False), (2 * BOUND + 1, True), (BOUND ** 3, True), (-BOUND, False)):
            self.check_point(outlook, ["a"], (a,), {"returned", "taken"} if taken else {"returned"})

    def test_far_rows(self):
        for at in range(6):
            steps = [FIND] + [STEP] * at
            far = Procedure([], ["a"], [*steps, ("if", ("found", "r"), [("if", ("same", ("field", "r", "key"), A),
                                                                       [("fail", "far")], [])], [])])
            for room in (at, at + 1, at + 3):
                rules = Rules([], rows=[("atmost", ("number", 0), KEY), ("below", KEY, ("number", room))])
                outlook = Outlook(rules, far)
                for a in range(-1, room + 1):
                    failing = {"far"} if at <= a < room else set()
                    self.check_point(outlook, ["a"], (a,), {"returned"} | failing)
            self.assertEqual(Outlook(Rules([]), far).words(), ["far"])

    def test_errors(self):
        for columns in ([], ["ends"], ["end", "x"]):
            self.assertRaises(ColumnsDiffer, Outlook, Rules(columns), BOOK)
            self.assertRaises(ColumnsDiffer, Outlook, Rules(columns), Procedure(["end"], [], [STEP] * 12))
        for many in range(13):
            procedure = Procedure(["end"], [], [STEP] * many)
            if many <= 6:
                self.assertEqual(len(Outlook(SPANS, procedure).returns()), 1)
            else:
                with self.assertRaises(TooWide) as caught:
                    Outlook(SPANS, procedure)
                self.assertEqual((caught.exception.most, caught.exception.code), (6, "TooWide"))
        outlook = Outlook(SPANS, BOOK)
        for wrong in ((), (1,), (1, 2, 3), (1, True), (None, 1), ("1", 2), ((1,), 2), (1, [2])):
            for method in (outlook.may_return, outlook.may_fail, outlook.surely_returns):
                with self.assertRaises(InvalidArguments) as caught:
                    method(*wrong)
                self.assertEqual(caught.exception.code, "InvalidArguments")
            self.assertRaises(InvalidArguments, lambda: outlook.may_fail(*wrong, word="busy"))

    def test_rows_of_a_grid_are_enough_here(self):
        # A check of the tests' own grid: each of its tables is one.
        self.assertEqual(len(grid_rows(("end",), 2, 3)), 27)


if __name__ == "__main__":
    unittest.main()
