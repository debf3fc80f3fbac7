"""Tests of lookedrows.questions and lookedrows.meetings: what questions are, and how they are played on a table."""

import math
import random
import unittest

from helpers import WRONG, right_name
from lookedrows.errors import ColumnsDiffer, FailsLate, InvalidArguments, InvalidName, InvalidText, TooWide
from lookedrows.meetings import Exchanged, Woven
from lookedrows.procedures import Procedure
from lookedrows.questions import Again, Alike, Keeps, Never, Question, Twice, Undone
from lookedrows.rules import Rules
from lookedrows.tables import Table
from players import (BESIDE, CLASSES, MOST_LOOKS, PAIRS, RUNS, Worker, all_weavings, is_failing, play, question_of,
                     some_procedures, some_rules, weave)

A, B, C, ONE = ("name", "a"), ("name", "b"), ("name", "c"), ("number", 1)
KEY, END = ("own", "key"), ("own", "end")
YES, ALL = ("true",), (None, None)
MOVE = ("move", A, 1)
FIND = ("find", "r", "first", ALL, YES)
STEP = ("step", "r", "next", "r")
GREAT = 10 ** 30


def field(name, column="key"):
    return ("field", name, column)


def with_looks(many, columns=("end",), arguments=("a",)):
    """A procedure with so many looks, and with one statement."""
    return Procedure(columns, arguments, [("if", YES, [STEP] * many, [])])


class TestParts(unittest.TestCase):

    def setUp(self):
        self.one = Procedure(["end"], ["b", "a"], [FIND, STEP, STEP])
        self.other = Procedure(["end"], ["c", "a", "b"], [MOVE, ("clear", ALL, YES)])

    def all_questions(self):
        """The pairs of each question and its procedures."""
        one, other = self.one, self.other
        found = [(question_of(topic, [one, other] if topic in PAIRS else [one]),
                  [one, other] if topic in PAIRS else [one]) for topic in CLASSES]
        return found + [(Question(one, other), [one, other]), (Question(one, other, one), [one, other, one])]

    def test_parts_of_each_question(self):
        for question, procedures in self.all_questions():
            self.assertIsInstance(question, Question)
            self.assertEqual(question.procedures(), procedures)
            self.assertIs(type(question.procedures()), list)
            question.procedures().append(None)
            self.assertEqual(question.procedures(), procedures)
            self.assertEqual(question.columns, ("key", "end"))
            self.assertIs(type(question.arguments), tuple)
            topic = "question" if type(question) is Question else type(question).__name__.lower()
            self.assertEqual(question.topic, topic)
            self.assertEqual(repr(question), f"Question({topic})")
            self.assertEqual(question.arguments, ("b", "a", "c") if self.other in procedures else ("b", "a"))
            if topic != "question":
                looks = RUNS[topic] * sum(procedure.looks for procedure in procedures)
                self.assertEqual(question.looks, looks)
                self.assertEqual(question.breadth, looks + BESIDE[topic])

    def test_numbers_of_looks_by_hand(self):
        one, other = with_looks(3), with_looks(4)
        self.assertEqual([(question.looks, question.breadth) for question in (
            Alike(one, other), Keeps(one), Never(one), Never(one, word="x"), Twice(one), Again(one), Undone(one, other),
            Exchanged(one, other), Woven(one, other))],
            [(7, 8), (3, 5), (3, 3), (3, 3), (6, 7), (9, 10), (7, 8), (14, 15), (21, 23)])

    def test_arguments_in_unlike_orders(self):
        for first, second, joined in (
            (["a", "b"], ["b", "a"], ("a", "b")), (["b", "a"], ["a", "b"], ("b", "a")), ([], ["c", "a"], ("c", "a")),
            (["c"], [], ("c",)), (["a", "b", "c"], ["d", "b", "e"], ("a", "b", "c", "d", "e")), ([], [], ()),
            (["x", "y", "z"], ["u", "v", "w"], ("x", "y", "z", "u", "v", "w")), (["a"], ["b", "a"], ("a", "b")),
        ):
            one, other = Procedure([], first, []), Procedure([], second, [])
            for kind in (Question, Alike, Undone, Exchanged, Woven):
                self.assertEqual(kind(one, other).arguments, joined)

    def test_the_base_class_of_one_and_of_none(self):
        self.assertEqual(Question(self.one).arguments, ("b", "a"))
        self.assertEqual((Question().procedures(), Question().arguments), ([], ()))

    def test_by_name(self):
        for kind in (Alike, Undone, Exchanged, Woven):
            self.assertEqual(kind(other=self.other, one=self.one).procedures(), [self.one, self.other])
        for kind in (Keeps, Never, Twice, Again):
            self.assertEqual(kind(procedure=self.one).procedures(), [self.one])
        self.assertEqual(Never(word="busy", procedure=self.one).procedures(), [self.one])
        with self.assertRaises(TypeError):
            Never(self.one, "busy")

    def test_the_same_procedure_twice(self):
        early = Procedure(["end"], ["a"], [MOVE])
        for kind in (Alike, Undone, Exchanged, Woven, Question):
            question = kind(early, early)
            self.assertEqual(question.procedures(), [early, early])
            self.assertEqual((question.arguments, question.looks), (("a",), 4 * RUNS.get(question.topic, 1)))

    def test_columns_differ(self):
        one = Procedure(["end"], ["a"], [])
        late = [("clear", ALL, YES), MOVE]
        for columns in ([], ["ends"], ["end", "x"], ["x", "end"]):
            for other in (Procedure(columns, ["a"], []), Procedure(columns, ["a"], late)):
                for kind in (Alike, Undone, Exchanged, Woven, Question):
                    self.assertRaises(ColumnsDiffer, kind, one, other)
                    with self.assertRaises(ColumnsDiffer) as caught:
                        kind(other, one)
                    self.assertEqual(caught.exception.code, "ColumnsDiffer")
        self.assertRaises(ColumnsDiffer, Question, one, one, Procedure([], [], []))
        self.assertRaises(ColumnsDiffer, Alike, Procedure(["a", "b"], [], []), Procedure(["b", "a"], [], []))

    def test_invalid_name_of_never(self):
        wrong = [thing for thing in WRONG if thing is not None and not right_name(thing)]
        for thing in (*wrong, "", "key", "A", "sevenll", 0, True, False, (), [], ["a"], ("busy",)):
            with self.assertRaises(InvalidName) as caught:
                Never(self.one, word=thing)
            self.assertEqual((caught.exception.given, caught.exception.code), (thing, "InvalidName"))
        for word in ("busy", "none", "taken", "order", "gone", "x"):
            self.assertEqual(Never(self.one, word=word).topic, "never")


class TestTooWide(unittest.TestCase):

    def check(self, question, rules, most):
        """A question that is too wide, or not if there is no most."""
        if most is None:
            self.assertTrue(question.ask(rules).holds)
            return
        with self.assertRaises(TooWide) as caught:
            question.ask(rules)
        self.assertEqual((caught.exception.most, caught.exception.code), (most, "TooWide"))
        # Other columns are named first.
        for other in (Rules([]), Rules(["ends"]), Rules(["end", "x"])):
            self.assertRaises(ColumnsDiffer, question.ask, other)

    def test_just_at_the_bound_and_beyond(self):
        rules = Rules(["end"])
        for topic in CLASSES:
            for first in range(13):
                for second in range(0, 13, 3) if topic in PAIRS else (0,):
                    procedures = [with_looks(first), with_looks(second)][:2 if topic in PAIRS else 1]
                    wide = RUNS[topic] * (first + second) > 12
                    self.check(question_of(topic, procedures), rules, 12 if wide else None)
        self.check(Never(with_looks(13), word="x"), rules, 12)

    def test_many_weavings(self):
        rules = Rules(["end"])
        quiet = ("if", YES, [], [])
        for first in range(13):
            for second in range(13):
                procedures = [Procedure(["end"], ["a"], [quiet] * many) for many in (first, second)]
                wide = math.comb(first + second, first) > 20
                self.check(Woven(*procedures), rules, 20 if wide else None)

    def test_looks_are_named_ahead_of_weavings(self):
        one = Procedure(["end"], ["a"], [STEP] * 4)
        self.check(Woven(one, one), Rules(["end"]), 12)
        one = Procedure(["end"], ["a"], [STEP] * 2 + [("if", YES, [], [])] * 2)
        self.check(Woven(one, one), Rules(["end"]), 20)

    def test_fails_is_never_too_wide(self):
        rules, table = Rules(["end"]), Table(["end"], [(at, at) for at in range(20)])
        wide = Procedure(["end"], ["a"], [("if", YES, [STEP] * 13, []), ("fail", "x")])
        for topic in CLASSES:
            question = question_of(topic, [wide, wide][:2 if topic in PAIRS else 1])
            self.assertRaises(TooWide, question.ask, rules)
            self.assertIs(question.fails(rules, table, 1), topic == "never")
        clear = ("clear", (A, None), YES)
        woven = Woven(Procedure(["end"], ["a"], [clear] * 12), Procedure(["end"], ["a"], [clear] * 12))
        self.assertIs(woven.fails(rules, table, 5), False)
        change = [("change", ALL, YES, "end", ("plus", END, 1)), ("change", ALL, YES, "end", ("number", 0))]
        for many, failing in ((8, False), (9, True)):
            one = Procedure(["end"], [], (change * 5)[:many])
            self.assertIs(Woven(one, Procedure(["end"], [], (change * 5)[:9])).fails(rules, table), failing)


class TestFails(unittest.TestCase):

    def test_each_question_against_the_player(self):
        seen = {}
        for seed in range(1600):
            dice = random.Random(seed)
            topic = list(CLASSES)[seed % len(CLASSES)]
            columns = dice.choice([(), ("end",), ("end",), ("x", "y")])
            procedures = some_procedures(dice, topic, columns)
            if topic == "woven" and not all(procedure.fails_early for procedure in procedures):
                continue
            rules = some_rules(dice, columns)
            word = dice.choice([None, "taken", "none", "gone", "order", "busy"])
            self.check(question_of(topic, procedures, word), rules, dice, word, seen)
        for topic in CLASSES:
            self.assertGreater(min(seen.get((topic, True), 0), seen.get((topic, False), 0)), 10, seen)

    def check(self, question, rules, dice, word, seen):
        for _ in range(8):
            rows = Worker(dice, columns=question.columns[1:]).rows(dice.randint(0, 5))
            known = {name: dice.randint(-1, 6) for name in question.arguments}
            table = Table(question.columns[1:], rows)
            failing = question.fails(rules, table, *[known[name] for name in question.arguments])
            right = is_failing(question.topic, question.procedures(), rules, rows, known, word)
            self.assertIs(failing, right, (question, [each.statements() for each in question.procedures()], rows,
                                           known))
            seen[question.topic, failing] = seen.get((question.topic, failing), 0) + 1
            self.assertEqual(table.rows(), sorted(rows))

    def test_by_hand(self):
        rules = Rules([], rows=[("atmost", KEY, ("number", 9))])
        put = Procedure([], ["a"], [("insert", "r", [A])])
        take = Procedure([], ["b", "a"], [("find", "r", "first", (A, ("plus", A, 1)), YES), ("delete", "r")])
        table = Table([], [(1,), (5,)])
        for question, numbers, failing in (
            (Never(put), (1,), True), (Never(put), (2,), False), (Never(put, word="busy"), (1,), False),
            (Never(put, word="taken"), (1,), True), (Keeps(put), (9,), False), (Keeps(put), (10,), True),
            (Twice(put), (1,), False), (Twice(put), (2,), False), (Again(put), (2,), True), (Again(put), (1,), False),
            (Undone(put, take), (2, 7), False), (Undone(put, take), (1, 7), False), (Undone(put, put), (2,), True),
            (Undone(take, put), (7, 1), False), (Undone(take, put), (7, 2), False), (Alike(put, put), (1,), False),
            (Alike(put, take), (1, 7), True), (Exchanged(put, take), (1, 7), True),
            (Exchanged(put, take), (2, 7), True),
            (Exchanged(put, put), (1,), False), (Exchanged(put, put), (2,), True), (Question(put), (1,), False),
        ):
            self.assertIs(question.fails(rules, table, *numbers), failing, (question, numbers))
            self.assertIs(question.fails(rules=rules, table=table, *numbers) if not numbers else failing, failing)
        self.assertEqual(table.rows(), [(1,), (5,)])

    def test_tables_that_break_the_rules(self):
        rules = Rules(["end"], rows=[("below", KEY, END)])
        table = Table(["end"], [(1, 1), (2, 5)])
        quiet = Procedure(["end"], [], [])
        bad = Procedure(["end"], [], [("clear", ALL, YES), ("fail", "x")])
        good = Procedure(["end"], [], [("clear", ALL, ("atmost", END, KEY))])
        for procedure, failing in ((quiet, True), (bad, True), (good, False)):
            self.assertIs(Keeps(procedure).fails(rules, table), failing)
            self.assertIs(Keeps(procedure).fails(Rules(["end"]), table), False)
            self.assertIs(Twice(procedure).fails(rules, table), False)
            self.assertIs(Never(procedure).fails(rules, table), procedure is bad)

    def test_great_integers(self):
        far = GREAT ** 3 + 1
        put = Procedure([], ["a"], [("insert", "r", [A]), ("move", A, -GREAT)])
        table = Table([], [(far,), (far - 2 * GREAT,)])
        self.assertIs(Never(put).fails(Rules([]), table, far), True)
        for key, failing in ((far + 1, True), (far + GREAT, True), (far + GREAT + 1, False), (far - 1, False),
                             (far - GREAT + 1, False), (far - GREAT, True), (far - 2 * GREAT - 1, False)):
            self.assertIs(Never(put, word="order").fails(Rules([]), table, key), failing, key - far)

    def test_errors(self):
        rules, table = Rules(["end"]), Table(["end"], [(1, 2)])
        early = Procedure(["end"], ["b", "a"], [FIND])
        for topic in CLASSES:
            question = question_of(topic, [early, early][:2 if topic in PAIRS else 1])
            self.assertIs(question.fails(rules, table, 1, 2), False)
            for wrong in ((), (1,), (1, 2, 3), (1, True), (None, 1), ("1", 2), ((1,), 2), (1, [2]), (False, False)):
                with self.assertRaises(InvalidArguments) as caught:
                    question.fails(rules, table, *wrong)
                self.assertEqual(caught.exception.code, "InvalidArguments")
            for numbers in ((1, 2), (), (None, None)):
                for columns in ([], ["ends"], ["end", "x"]):
                    self.assertRaises(ColumnsDiffer, question.fails, Rules(columns), table, *numbers)
                    self.assertRaises(ColumnsDiffer, question.fails, rules, Table(columns), *numbers)
                    self.assertRaises(ColumnsDiffer, question.fails, Rules(columns), Table(columns), *numbers)


class TestWoven(unittest.TestCase):

    def test_weavings(self):
        self.assertEqual(Woven(Procedure([], [], []), Procedure([], [], [])).weavings(), [""])
        for first in range(6):
            for second in range(6):
                one, other = [Procedure([], ["a"], [("if", YES, [], [])] * many) for many in (first, second)]
                weavings = Woven(one, other).weavings()
                self.assertEqual(weavings, all_weavings(first, second))
                self.assertEqual(weavings, sorted(weavings))
                weavings.append(None)
                self.assertEqual(Woven(one, other).weavings(), all_weavings(first, second))

    def early(self, dice, columns):
        while True:
            procedures = some_procedures(dice, "woven", columns)
            if all(procedure.fails_early for procedure in procedures):
                return procedures

    def test_woven_against_the_player(self):
        seen = {}
        for seed in range(400):
            dice = random.Random(seed)
            columns = dice.choice([(), ("end",), ("x", "y")])
            one, other = self.early(dice, columns)
            question = Woven(one, other)
            rows = Worker(dice, columns=columns).rows(dice.randint(0, 5))
            known = {name: dice.randint(-1, 6) for name in question.arguments}
            for weaving in dice.sample(question.weavings(), min(len(question.weavings()), 12)):
                told = question.woven(weaving, Table(columns, rows), *[known[name] for name in question.arguments])
                self.assertEqual((type(told), len(told)), (tuple, 3))
                first, second, table = told
                right = weave(one, other, weaving, rows, known)
                self.assertEqual((first, second, table.rows()), right, (one.statements(), other.statements(), rows))
                self.assertEqual(table.columns, question.columns)
                seen[first[0], second[0]] = seen.get((first[0], second[0]), 0) + 1
        self.assertEqual(len(seen), 4)
        self.assertGreater(min(seen.values()), 10, seen)

    def test_the_two_orders_are_those_of_whole_runs(self):
        for seed in range(100):
            dice = random.Random(seed)
            one, other = self.early(dice, ("end",))
            question = Woven(one, other)
            rows = Worker(dice).rows(4)
            known = {name: dice.randint(-1, 6) for name in question.arguments}
            numbers = [known[name] for name in question.arguments]
            weaving = "0" * len(one) + "1" * len(other)
            first, second, table = question.woven(weaving, Table(["end"], rows), *numbers)
            ending, behind = play(one, rows, known)
            self.assertEqual((first, (second, table.rows())), (ending, play(other, behind, known)))

    def test_a_procedure_that_returns_or_fails_amid_its_statements(self):
        end = [("if", ("found", "r"), [("return", (field("r"),))], [("fail", "no")]), ("clear", ALL, YES)]
        one = Procedure([], [], [FIND, *end])
        other = Procedure([], ["a"], [("insert", "s", (A,))])
        for rows, weaving, first, behind in (
            ([], "0001", ("failed", "no"), [(7,)]), ([], "0010", ("failed", "no"), [(7,)]),
            ([], "0100", ("failed", "no"), [(7,)]), ([], "1000", ("returned", [7]), [(7,)]),
            ([(5,)], "0001", ("returned", [5]), [(5,), (7,)]), ([(5,)], "1000", ("returned", [5]), [(5,), (7,)]),
            ([(8,)], "0100", ("returned", [8]), [(7,), (8,)]), ([(8,)], "1000", ("returned", [7]), [(7,), (8,)]),
        ):
            told = Woven(one, other).woven(weaving, Table([], rows), 7)
            self.assertEqual((told[0], told[1], told[2].rows()), (first, ("returned", []), behind))
        told = Woven(one, other).woven("1000", Table([], [(7,)]), 7)
        self.assertEqual((told[0], told[1], told[2].rows()), (("returned", [7]), ("failed", "taken"), [(7,)]))

    def test_rows_that_the_other_procedure_deletes(self):
        one = Procedure([], [], [FIND, ("delete", "r")])
        woven = Woven(one, one)
        self.assertEqual(woven.arguments, ())
        told = woven.woven("0101", Table([], [(1,), (2,)]))
        self.assertEqual((told[0], told[1], told[2].rows()), (("returned", []), ("failed", "gone"), [(2,)]))
        told = woven.woven("1001", Table([], [(1,), (2,)]))
        self.assertEqual((told[0], told[1], told[2].rows()), (("returned", []), ("failed", "gone"), [(2,)]))
        told = woven.woven("1100", Table([], [(1,), (2,)]))
        self.assertEqual((told[0], told[1], told[2].rows()), (("returned", []), ("returned", []), []))

    def test_new_lists(self):
        one = Procedure([], ["a"], [("return", (A,))])
        told = Woven(one, one).woven("01", Table([]), 3)
        told[0][1].append(None)
        self.assertEqual(Woven(one, one).woven("01", Table([]), 3)[0], ("returned", [3]))

    def test_fails_late(self):
        late = [("clear", ALL, YES), ("insert", "r", (A,))]
        early = Procedure([], ["a"], late[::-1])
        for statements, index in ((late, 1), (late[::-1] + [("fail", "x")], 2), ([("if", YES, late, [])], 0),
                                  ([FIND, ("if", ("found", "r"), [], late), ("clear", ALL, YES)], 1)):
            wrong = Procedure([], ["a"], statements)
            self.assertEqual(wrong.late(), index)
            for pair in ((wrong, early), (early, wrong), (wrong, Procedure([], ["a"], [*late, *late]))):
                with self.assertRaises(FailsLate) as caught:
                    Woven(*pair)
                self.assertEqual((caught.exception.index, caught.exception.code), (index, "FailsLate"))
        # What is early enough may fail and change in one statement, and fail in the one list and change in the other.
        Woven(Procedure([], ["a"], [("if", YES, [("clear", ALL, YES)], [("fail", "x")])]), early)

    def test_errors_in_their_order(self):
        one = Procedure(["end"], ["a"], [FIND, ("clear", ALL, YES)])
        other = Procedure(["end"], ["b"], [FIND])
        woven, table = Woven(one, other), Table(["end"], [(1, 2)])
        woven.woven("010", table, 1, 2)
        for wrong in ("", "0", "01", "0101", "011", "000", "01 ", " 010", "01\n", "abc", "0 1 0", "002", None, 10, 0,
                      True, False, (), ("0", "1", "0"), ["010"], [0, 1, 0], "0101010"):
            for columns in (["end"], []):
                for numbers in ((1, 2), (), (True, 1)):
                    with self.assertRaises(InvalidText) as caught:
                        woven.woven(wrong, Table(columns), *numbers)
                    self.assertEqual(caught.exception.code, "InvalidText")
        for columns in ([], ["ends"], ["end", "x"]):
            for numbers in ((1, 2), (), (None, 1)):
                self.assertRaises(ColumnsDiffer, woven.woven, "010", Table(columns), *numbers)
        for numbers in ((), (1,), (1, 2, 3), (True, 1), (1, None), ("1", 2)):
            self.assertRaises(InvalidArguments, woven.woven, "010", table, *numbers)
        self.assertEqual(table.rows(), [(1, 2)])

    def test_the_bounds_of_the_makers(self):
        # The makers of these tests make procedures that may be asked of.
        for topic in CLASSES:
            for seed in range(20):
                procedures = some_procedures(random.Random(seed), topic, ("end",))
                self.assertLessEqual(procedures[0].looks, MOST_LOOKS[topic])


if __name__ == "__main__":
    unittest.main()
