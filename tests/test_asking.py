"""Tests of what is asked of questions: that the answers are right for all tables, and those of the fewest rows."""

import itertools
import random
import unittest

from helpers import Maker, all_broken
from lookedrows.boards import Astray, Board, laid_out
from lookedrows.choices import ascending, branches, cells_of
from lookedrows.errors import ColumnsDiffer, FailsLate, InvalidCount, TooWide
from lookedrows.meetings import Exchanged, Woven
from lookedrows.procedures import Procedure
from lookedrows.questions import Again, Alike, Keeps, Never, Question, Twice, Undone
from lookedrows.rules import Rules
from lookedrows.stages import Setting, Stage
from lookedrows.tables import Table
from lookedrows.verdicts import No, Verdict, Yes
from players import CLASSES, PAIRS, grid_rows, is_failing, question_of, some_procedures, some_rules

A, B, C, ONE = ("name", "a"), ("name", "b"), ("name", "c"), ("number", 1)
KEY, END = ("own", "key"), ("own", "end")
NEXT_KEY, NEXT_END = ("next", "key"), ("next", "end")
YES, ALL = ("true",), (None, None)
GREAT = 10 ** 30
SPANS = Rules(["end"], rows=[("below", KEY, END)], nexts=[("atmost", END, NEXT_KEY)])
FIND = ("find", "r", "first", ALL, YES)


def field(name, column="key"):
    return ("field", name, column)


def given_by(question, numbers):
    return dict(zip(question.arguments, numbers))


def has_failing_table(question, rules, many):
    """Whether a question fails for a table of so many rows that keeps rules: over all such tables at once.

    Here all rows are there from the beginning, and no look leads to further ones.
    """
    cells = cells_of(rules.columns, many)
    order, marks = laid_out(cells)
    setting = Setting(rules, rules.columns, {name: (name, 0) for name in question.arguments})

    def fails(acts, judge):
        if rules.first_broken(cells, judge) is not None:
            return False
        stage = Stage(setting, Board(order, marks, judge), judge)
        try:
            for act in acts:
                stage.act(act)
        except Astray:
            return False
        return True

    for acts in question.plans(rules):
        for _, told in branches(ascending(many), lambda judge: fails(acts, judge)):
            if told:
                return True
    return False


class Asking(unittest.TestCase):

    def check_no(self, question, verdict, rules, word=None):
        """The table of a negative answer keeps the rules, and the question fails for it."""
        self.assertIs(type(verdict), No)
        self.assertIs(type(verdict.table), Table)
        self.assertEqual(verdict.table.columns, rules.columns)
        self.assertEqual((type(verdict.numbers), len(verdict.numbers)), (tuple, len(question.arguments)))
        rows = verdict.table.rows()
        self.assertEqual(all_broken(rules.columns, rules.rows(), rules.nexts(), rows), [])
        known = given_by(question, verdict.numbers)
        told = [each.statements() for each in question.procedures()]
        failing = is_failing(question.topic, question.procedures(), rules, rows, known, word)
        self.assertTrue(failing, (told, rows, known))
        self.assertIs(verdict.shows(), True)

    def check_verdict(self, question, verdict, rules):
        self.assertIsInstance(verdict, Verdict)
        self.assertIs(verdict.question, question)
        self.assertIs(verdict.rules, rules)
        self.assertIs(verdict.holds, type(verdict) is Yes)

    def rows_of_no(self, question, rules):
        """The number of rows of the table of a negative answer, or None for a positive one."""
        verdict = question.ask(rules)
        self.check_verdict(question, verdict, rules)
        if verdict.holds:
            return None
        self.check_no(question, verdict, rules)
        return len(verdict.table)


class TestOverGrids(Asking):

    def check_grid(self, question, verdict, rules, dice, word):
        """No table of a grid speaks against a positive answer, and none with fewer rows fails as a negative one."""
        columns = question.columns[1:]
        fewest = 4 if verdict.holds else len(verdict.table)
        high = {0: 5, 1: 3, 2: 2}[len(columns)]
        all_given = list(itertools.product(range(-1, high + 1), repeat=len(question.arguments)))
        points = [(rows, given) for many in range(min(fewest, 4)) for rows in grid_rows(columns, many, high)
                  if not all_broken(question.columns, rules.rows(), rules.nexts(), rows) for given in all_given]
        for rows, given in points if len(points) < 250 else dice.sample(points, 250):
            failing = is_failing(question.topic, question.procedures(), rules, rows, given_by(question, given), word)
            self.assertFalse(failing, ([each.statements() for each in question.procedures()], rules.rows(),
                                       rules.nexts(), rows, given))

    def check_topic(self, topic, seeds, least):
        seen = {True: 0, False: 0, "with rows": 0}
        for seed in range(seeds):
            dice = random.Random(f"{topic} {seed}")
            columns = dice.choice([(), ("end",), ("end",), ("x", "y")])
            procedures = some_procedures(dice, topic, columns)
            word = dice.choice([None, None, "taken", "busy", "order"]) if topic == "never" else None
            try:
                question = question_of(topic, procedures, word)
            except FailsLate:
                continue
            rules = some_rules(dice, columns)
            try:
                verdict = question.ask(rules)
            except TooWide:
                continue
            self.check_verdict(question, verdict, rules)
            if not verdict.holds:
                self.check_no(question, verdict, rules, word)
                seen["with rows"] += len(verdict.table) > 0
            self.check_grid(question, verdict, rules, dice, word)
            seen[verdict.holds] += 1
        self.assertGreater(min(seen.values()), least, seen)

    def test_alike(self):
        self.check_topic("alike", 150, 15)

    def test_keeps(self):
        self.check_topic("keeps", 150, 5)

    def test_never(self):
        self.check_topic("never", 150, 15)

    def test_twice(self):
        self.check_topic("twice", 150, 8)

    def test_again(self):
        self.check_topic("again", 130, 15)

    def test_undone(self):
        self.check_topic("undone", 130, 15)

    def test_exchanged(self):
        self.check_topic("exchanged", 130, 5)

    def test_woven(self):
        self.check_topic("woven", 250, 2)

    def test_all_tables_of_few_rows_at_once(self):
        """Compares the answers with those of a plain search over all tables of up to three rows."""
        for seed in range(240):
            topic = list(CLASSES)[seed % len(CLASSES)]
            dice = random.Random(seed)
            columns = dice.choice([(), ("end",)])
            procedures = some_procedures(dice, topic, columns)
            try:
                question = question_of(topic, procedures)
            except FailsLate:
                continue
            rules = some_rules(dice, columns)
            verdict = question.ask(rules)
            fewest = 3 if verdict.holds else len(verdict.table)
            for many in range(min(fewest, 3)):
                self.assertFalse(has_failing_table(question, rules, many), ([each.statements() for each in procedures]))
            if fewest < 3:
                self.assertTrue(has_failing_table(question, rules, fewest))


class TestByHand(Asking):

    def test_booking(self):
        find = ("find", "r", "first", (None, B), ("below", A, END))
        put = ("if", ("found", "r"), (("fail", "busy"),), (("insert", "s", (A, B)),))
        check = ("if", ("below", A, B), (), (("fail", "empty"),))
        careless = Procedure(["end"], ["a", "b"], [find, put])
        careful = Procedure(["end"], ["a", "b"], [check, find, put])
        for question, rows in (
            (Keeps(careless), 0), (Keeps(careful), None), (Never(careful, word="taken"), None),
            (Never(careful, word="busy"), 1), (Never(careful, word="empty"), 0), (Never(careful, word="none"), None),
            (Never(careful), 0), (Twice(careful), None), (Again(careful), 0), (Alike(careful, careless), 0),
            (Undone(careful, careless), 0), (Exchanged(careful, careful), 0),
        ):
            self.assertEqual(self.rows_of_no(question, SPANS), rows, question)

    def test_a_row_at_which_no_run_looks(self):
        for question, rows in (
            (Alike(Procedure([], [], [("clear", ALL, YES)]), Procedure([], [], [])), 1),
            (Alike(Procedure([], ["a"], [("move", A, 2)]), Procedure([], ["a"], [("move", A, 1)])), 1),
            (Twice(Procedure([], ["a"], [("move", A, 2)])), 1),
            (Again(Procedure([], ["a"], [("move", A, 2)])), 1),
            (Undone(Procedure([], [], [("clear", ALL, YES)]), Procedure([], [], [])), 1),
            (Undone(Procedure([], ["a"], [("move", A, 2)]), Procedure([], ["a"], [("move", A, -2)])), None),
            (Undone(Procedure([], ["a"], [("move", A, -2)]), Procedure([], ["a"], [("move", A, 2)])), 1),
            (Exchanged(Procedure([], ["a"], [("move", A, 2)]), Procedure([], ["b"], [("move", B, 2)])), 1),
            (Exchanged(Procedure([], ["a"], [("clear", (A, None), YES)]),
                       Procedure([], ["b"], [("clear", (B, None), YES)])), None),
        ):
            self.assertEqual(self.rows_of_no(question, Rules([])), rows, question)

    def test_two_rows_at_which_no_run_looks(self):
        rules = Rules(["end"], nexts=[("atmost", END, NEXT_END)])
        shift = [("change", (A, None), YES, "end", ("plus", END, 1))]
        back = [("change", (A, None), YES, "end", ("plus", END, -1))]
        self.assertEqual(self.rows_of_no(Keeps(Procedure(["end"], ["a"], shift)), rules), None)
        self.assertEqual(self.rows_of_no(Keeps(Procedure(["end"], ["a"], back)), rules), 2)
        gaps = Rules([], nexts=[("atmost", ("plus", KEY, 10), NEXT_KEY)])
        self.assertEqual(self.rows_of_no(Keeps(Procedure([], ["a"], [("move", A, 3)])), gaps), None)
        self.assertEqual(self.rows_of_no(Keeps(Procedure([], ["a"], [("move", A, -3)])), gaps), 2)
        # A weaving that differs from one order by one row, and from the other order by another row.
        one = Procedure(["end"], [], [("change", ALL, ("same", END, ("number", k)), "end", ("number", k + 1))
                                      for k in (0, 10)])
        other = Procedure(["end"], [], [("change", ALL, ("same", END, ("number", k + 1)), "end", ("number", 5))
                                        for k in (10, 0)])
        verdict = Woven(one, other).ask(Rules(["end"]))
        self.check_no(Woven(one, other), verdict, Rules(["end"]))
        self.assertEqual(len(verdict.table), 2)
        self.assertEqual(sorted(row[1] for row in verdict.table.rows()), [0, 10])

    def test_weavings(self):
        put = ("insert", "s", (A,))
        look = ("find", "r", "first", (A, ("plus", A, 1)), YES)
        guarded = Procedure([], ["a"], [look, ("if", ("found", "r"), (), (put,))])
        whole = Procedure([], ["a"], [("if", ("found", "r"), (), (look, ("if", ("found", "r"), (), (put,))))])
        other = Procedure([], ["b"], [("insert", "s", (B,))])
        self.assertEqual(self.rows_of_no(Woven(guarded, other), Rules([])), 0)
        self.assertEqual(self.rows_of_no(Woven(whole, other), Rules([])), None)
        self.assertEqual(self.rows_of_no(Exchanged(whole, other), Rules([])), 0)
        self.assertEqual(self.rows_of_no(Woven(guarded, guarded), Rules([])), 0)
        self.assertEqual(self.rows_of_no(Woven(whole, whole), Rules([])), None)

    def test_endings_matter(self):
        key = ("if", ("found", "r"), [("return", (field("r"),))], [])
        tell = Procedure([], ["a"], [("find", "r", "last", ALL, YES), key])
        told = Procedure([], ["a"], [("find", "r", "last", (None, A), YES), key])
        self.assertEqual(self.rows_of_no(Alike(tell, told), Rules([])), 1)
        fails = [Procedure([], [], [("fail", word)]) for word in ("x", "y")]
        self.assertEqual(self.rows_of_no(Alike(*fails), Rules([])), 0)
        self.assertEqual(self.rows_of_no(Alike(fails[0], fails[0]), Rules([])), None)
        self.assertEqual(self.rows_of_no(Exchanged(*fails), Rules([])), None)
        self.assertEqual(self.rows_of_no(Alike(Procedure([], ["a"], [("return", (A,))]),
                                               Procedure([], ["b"], [("return", (B,))])), Rules([])), 0)
        self.assertEqual(self.rows_of_no(Alike(Procedure([], ["a", "b"], [("return", (A, B))]),
                                               Procedure([], ["b", "a"], [("return", (A, B))])), Rules([])), None)
        put, clear = Procedure([], ["a"], [("insert", "r", (A,))]), Procedure([], [], [("clear", ALL, YES)])
        self.assertEqual(self.rows_of_no(Exchanged(put, clear), Rules([])), 0)
        self.assertEqual(self.rows_of_no(Exchanged(tell, clear), Rules([])), 1)

    def test_deleted_rows_are_gone(self):
        gone = Procedure([], [], [FIND, ("clear", ALL, YES), ("step", "s", "next", "r")])
        self.assertEqual(self.rows_of_no(Never(gone, word="gone"), Rules([])), 1)
        self.assertEqual(self.rows_of_no(Never(gone, word="none"), Rules([])), None)
        self.assertEqual(self.rows_of_no(Twice(gone), Rules([])), None)
        found = Procedure([], [], [FIND, ("if", ("found", "r"), [("delete", "r")], []),
                                   ("if", ("found", "r"), [("fail", "x")], [])])
        self.assertEqual(self.rows_of_no(Never(found), Rules([])), 1)

    def test_rules_that_no_row_keeps(self):
        none = Rules([], rows=[("not", YES)])
        self.assertEqual(self.rows_of_no(Never(Procedure([], [], [FIND, ("if", ("found", "r"), [("fail", "x")], [])])),
                                         none), None)
        self.assertEqual(self.rows_of_no(Keeps(Procedure([], ["a"], [("insert", "r", (A,))])), none), 0)
        self.assertEqual(self.rows_of_no(Keeps(Procedure([], ["a"], [("move", A, 1)])), none), None)

    def test_the_base_class_does_not_fail(self):
        self.assertTrue(Question(Procedure([], [], [("fail", "x")])).ask(Rules([])).holds)

    def test_columns_differ(self):
        early = Procedure(["end"], ["a"], [FIND])
        for topic in CLASSES:
            question = question_of(topic, [early, early][:2 if topic in PAIRS else 1])
            self.assertTrue(question.ask(rules=Rules(["end"])).holds)
            for columns in ([], ["ends"], ["end", "x"], ["x", "end"]):
                with self.assertRaises(ColumnsDiffer) as caught:
                    question.ask(Rules(columns))
                self.assertEqual(caught.exception.code, "ColumnsDiffer")

    def test_equal_calls_and_what_is_passed(self):
        dice = random.Random(3)
        for _ in range(40):
            one, other = some_procedures(dice, "alike", ("end",))
            rules = some_rules(dice, ("end",))
            kept = (one.statements(), other.statements(), rules.rows(), rules.nexts())
            first, second = [Alike(one, other).ask(rules) for _ in range(2)]
            self.assertEqual((one.statements(), other.statements(), rules.rows(), rules.nexts()), kept)
            self.assertEqual(first.told(), second.told())
            if not first.holds:
                self.assertEqual((first.table, first.numbers), (second.table, second.numbers))


class TestCasesOfYes(Asking):

    def test_cases_of_real_questions(self):
        seen = 0
        for seed in range(60):
            dice = random.Random(seed)
            columns = dice.choice([(), ("end",)])
            topic = dice.choice(["never", "keeps", "twice", "alike"])
            verdict = question_of(topic, some_procedures(dice, topic, columns)).ask(some_rules(dice, columns))
            if verdict.holds and verdict.question.breadth < 6:
                for many in range(verdict.question.breadth + 1):
                    self.check_cases(verdict, columns, many, dice)
                    seen += 1
                for wrong in (-1, verdict.question.breadth + 1, True, None, "", [0]):
                    with self.assertRaises(InvalidCount) as caught:
                        verdict.cases(wrong)
                    self.assertIs(caught.exception.given, wrong)
        self.assertGreater(seen, 60)

    def check_cases(self, verdict, columns, many, dice):
        cases = verdict.cases(many=many)
        self.assertIs(type(cases), list)
        unknowns = {f"{at}.{column}" for at in range(many) for column in verdict.rules.columns}
        for system in cases:
            self.assertTrue(system.is_open)
            self.assertLessEqual(set(system.unknowns()), unknowns | set(verdict.question.arguments))
            example = system.example()
            rows = [tuple(example.get(f"{at}.{column}", 7 - at) for column in verdict.rules.columns)
                    for at in range(many)]
            self.assertEqual(rows, sorted(rows))
            self.assertTrue(verdict.rules.keeps(Table(columns, rows)))
        for _ in range(30):
            table = Table(columns, Maker(dice, columns=columns).rows(many, -2, 6))
            known = {f"{at}.{column}": cell for at, row in enumerate(table.rows())
                     for column, cell in zip(table.columns, row)} | {name: 0 for name in verdict.question.arguments}
            self.assertEqual(sum(known in system for system in cases), verdict.rules.keeps(table))

    def test_wide_answers(self):
        steps = Procedure([], [], [("if", YES, [FIND] + [("step", "r", "next", "r")] * 5, [])])
        verdict = Twice(steps).ask(Rules([], rows=[("atmost", ("number", 0), KEY)]))
        self.assertEqual(verdict.question.breadth, 13)
        for many in range(14):
            self.assertEqual(len(verdict.cases(many)), 1)
            self.assertEqual(len(verdict.cases(many)[0].example()), many)
        self.assertRaises(InvalidCount, verdict.cases, 14)


class TestVerdictsOfRealQuestions(Asking):

    def test_yes_and_no(self):
        rules = Rules([])
        put = Procedure([], ["b", "a"], [("insert", "r", (A,))])
        yes, no = Twice(put).ask(rules), Never(put).ask(rules)
        self.assertEqual((repr(yes), repr(no), yes.told(), no.told()), ("Verdict(yes)", "Verdict(no)", "yes", "no"))
        self.assertEqual((yes.holds, no.holds, type(yes), type(no)), (True, False, Yes, No))
        self.assertEqual(yes.question.topic, "twice")
        self.assertIs(no.rules, rules)
        self.assertEqual(no.table.rows(), [(no.numbers[1],)])
        self.assertEqual(len(no.numbers), 2)

    def test_no_with_other_tables_and_rules(self):
        put = Procedure([], ["a"], [("insert", "r", (A,))])
        rules = Rules([], rows=[("below", ("number", 2), KEY)])
        numbers = [5]
        no = No(Never(put), rules, Table([], [(5,)]), numbers)
        numbers[0] = 6
        self.assertEqual(no.numbers, (5,))
        self.assertIs(no.shows(), True)
        self.assertIs(No(Never(put), rules, Table([], [(4,)]), (5,)).shows(), False)
        self.assertIs(No(Never(put), rules, Table([], [(1,)]), (1,)).shows(), False)
        self.assertIs(No(Twice(put), rules, Table([], [(5,)]), (5,)).shows(), False)
        self.assertIs(No(question=Keeps(put), rules=rules, table=Table([]), numbers=(2,)).shows(), True)
        self.assertEqual(repr(Verdict(Never(put), rules)), "Verdict(unknown)")


class TestWide(Asking):

    def goes(self, at, *last, end="first", side="next"):
        """The procedure that goes to the row with an index, from one end, and then does some statements."""
        steps = [("find", "r", end, ALL, YES)] + [("step", "r", side, "r")] * at
        return Procedure([], [], [("if", YES, steps, []), *last])

    def room_for(self, many):
        """Rules that let only so many rows."""
        return Rules([], rows=[("atmost", ("number", 0), KEY), ("below", KEY, ("number", 10 * many))],
                     nexts=[("atmost", ("plus", KEY, 10), NEXT_KEY)])

    def both_ends(self):
        return [{"end": "first", "side": "next"}, {"end": "last", "side": "prior"}]

    def test_never(self):
        for at in range(12):
            for ends in self.both_ends():
                for last in ([("if", ("found", "r"), [("fail", "far")], [])], [("delete", "r")]):
                    question = Never(self.goes(at, *last, **ends), word=dict(fail="far").get(last[0][2][0][0], "none")
                                     if last[0][0] == "if" else None)
                    failing = at + 1 if last[0][0] == "if" else 0
                    self.assertEqual(self.rows_of_no(question, Rules([])), failing)
                    if last[0][0] == "if":
                        self.assertEqual(self.rows_of_no(question, self.room_for(at + 1)), failing)
                        self.assertEqual(self.rows_of_no(question, self.room_for(at)), None)

    def test_alike_and_twice(self):
        guarded = ("if", ("found", "r"), [("delete", "r")], [])
        for at in range(6):
            for ends in self.both_ends():
                far, quiet = self.goes(at, guarded, **ends), self.goes(at, **ends)
                self.assertEqual(self.rows_of_no(Alike(far, quiet), Rules([])), at + 1)
                self.assertEqual(self.rows_of_no(Alike(far, quiet), self.room_for(at + 1)), at + 1)
                self.assertEqual(self.rows_of_no(Alike(far, quiet), self.room_for(at)), None)
                self.assertEqual(self.rows_of_no(Twice(far), Rules([])), at + 2)
                self.assertEqual(self.rows_of_no(Twice(far), self.room_for(at + 2)), at + 2)
                self.assertEqual(self.rows_of_no(Twice(far), self.room_for(at + 1)), None)
                self.assertEqual(self.rows_of_no(Undone(far, quiet), self.room_for(at + 1)), at + 1)
                self.assertEqual(self.rows_of_no(Undone(far, quiet), self.room_for(at)), None)

    def test_again_and_exchanged(self):
        guarded = ("if", ("found", "r"), [("delete", "r")], [])
        for at in range(4):
            far = self.goes(at, guarded)
            self.assertEqual(self.rows_of_no(Again(far), Rules([])), at + 2)
            self.assertEqual(self.rows_of_no(Again(far), self.room_for(at + 1)), None)
        for at in range(3):
            key = ("if", ("found", "r"), [("return", (field("r"),))], [])
            told = Procedure([], [], [*self.goes(at).statements(), key])
            question = Exchanged(self.goes(at, guarded), told)
            self.assertEqual(self.rows_of_no(question, self.room_for(at + 1)), at + 1)
            self.assertEqual(self.rows_of_no(question, self.room_for(at)), None)

    def test_a_row_in_a_range(self):
        steps = [("find", "r", "first", (A, None), ("below", END, KEY))] + [("step", "r", "next", "r")] * 7
        far = Procedure(["end"], ["a"], [*steps, ("if", ("found", "r"), [("if", ("same", field("r", "end"), A),
                                                                          [("fail", "far")], [])], [])])
        self.assertEqual(self.rows_of_no(Never(far), Rules(["end"])), 8)
        self.assertEqual(self.rows_of_no(Never(far), Rules(["end"], rows=[("below", END, KEY)])), 8)
        self.assertEqual(self.rows_of_no(Never(far), Rules(["end"], nexts=[("same", END, NEXT_END)])), 8)
        self.assertEqual(self.rows_of_no(Never(far), Rules(["end"], nexts=[("below", END, NEXT_END)])), 8)
        self.assertEqual(self.rows_of_no(Never(far), Rules(["end"], nexts=[("below", NEXT_END, END)])), 8)
        self.assertEqual(self.rows_of_no(Never(far), SPANS), None)


class TestGreatIntegersAndColumns(Asking):

    def test_great_integers(self):
        high = Rules([], rows=[("below", ("number", GREAT - 1), KEY)])
        put = Procedure([], ["a"], [("insert", "r", (("plus", A, GREAT),))])
        verdict = Keeps(put).ask(high)
        self.check_no(Keeps(put), verdict, high)
        self.assertLess(verdict.numbers[0], 0)
        verdict = Never(put).ask(high)
        self.check_no(Never(put), verdict, high)
        self.assertGreaterEqual(verdict.table.all_keys()[0], GREAT)
        far = Procedure([], ["a"], [("move", A, GREAT), ("move", ("plus", A, GREAT), GREAT)])
        self.assertEqual(self.rows_of_no(Never(far), high), None)
        back = Procedure([], ["a"], [("move", ("plus", A, GREAT), -GREAT), ("move", A, -GREAT)])
        self.assertEqual(self.rows_of_no(Undone(far, back), high), None)
        self.assertEqual(self.rows_of_no(Undone(far, Procedure([], ["a"], [("move", A, -GREAT)])), high), 1)
        limits = Rules([], rows=[("atmost", ("number", -GREAT), KEY), ("atmost", KEY, ("number", -GREAT))])
        seen = Procedure([], [], [FIND, ("if", ("found", "r"), [("return", (("plus", field("r"), -GREAT),))], [])])
        self.assertEqual(self.rows_of_no(Alike(seen, Procedure([], [], [
            FIND, ("if", ("found", "r"), [("return", (("number", -GREAT),))], [])])), limits), 1)

    def test_numbers_of_a_negative_answer_beyond_the_bounds(self):
        # The table that is needed has keys that lie farther apart than what may be passed.
        apart = Rules([], nexts=[("atmost", ("plus", KEY, GREAT), NEXT_KEY)])
        three = Procedure([], [], [FIND, ("step", "r", "next", "r"), ("step", "r", "next", "r"),
                                   ("if", ("found", "r"), [("fail", "x")], [])])
        verdict = Never(three).ask(apart)
        self.check_no(Never(three), verdict, apart)
        keys = verdict.table.all_keys()
        self.assertGreaterEqual(keys[2] - keys[0], 2 * GREAT)

    def test_one_two_and_three_further_columns(self):
        for columns in (("x",), ("x", "y"), ("x", "y", "z")):
            last = columns[-1]
            rules = Rules(columns, rows=[("atmost", ("own", first), ("own", second))
                                         for first, second in zip(("key",) + columns, columns)],
                          nexts=[("atmost", ("own", last), ("next", "key"))])
            find = ("find", "r", "last", (None, ("plus", A, 1)), ("atmost", A, ("own", last)))
            write = ("if", ("found", "r"), [("set", "r", last, A)], [])
            self.assertEqual(self.rows_of_no(Keeps(Procedure(columns, ["a"], [find, write])), rules),
                             None if len(columns) == 1 else 1)
            self.assertEqual(self.rows_of_no(Twice(Procedure(columns, ["a"], [find, write])), rules), None)
            cells = [A] + [("plus", A, at) for at in range(len(columns))]
            put = Procedure(columns, ["a"], [find, ("if", ("found", "r"), [], [("insert", "s", cells)])])
            self.assertEqual(self.rows_of_no(Keeps(put), rules), 1 if len(columns) == 3 else None)
            self.assertEqual(self.rows_of_no(Never(put), rules), None)

    def test_moves_forward_and_back(self):
        for k in (1, -1, 5, -5, GREAT, -GREAT):
            there, back = [Procedure([], ["a"], [("move", A, many)]) for many in (k, -k)]
            further = Procedure([], ["a"], [("move", ("plus", A, k), -k)])
            self.assertEqual(self.rows_of_no(Never(there), Rules([])), None if k > 0 else 2)
            self.assertEqual(self.rows_of_no(Undone(there, further), Rules([])), None if k > 0 else 1)
            self.assertEqual(self.rows_of_no(Undone(there, back), Rules([])), None if k > 0 else 1)
            both = Procedure([], ["a"], [("move", A, k), ("move", ("plus", A, k), -k)])
            self.assertEqual(self.rows_of_no(Alike(both, Procedure([], ["a"], [])), Rules([])), None if k > 0 else 1)

    def test_fields_of_rows_that_are_changed_moved_or_deleted(self):
        for middle, word in (
            ([("set", "r", "end", A)], None), ([("delete", "r")], "gone"),
            ([("clear", ALL, ("below", END, A))], "gone"),
            ([("move", A, 3)], None), ([("change", ALL, YES, "end", KEY)], None),
        ):
            tell = [("return", (field("r"), field("r", "end")))]
            told = Procedure(["end"], ["a"], [FIND, ("if", ("found", "r"), (*middle, *tell), ())])
            self.assertEqual(self.rows_of_no(Never(told), Rules(["end"])), 1 if word else None)
            self.assertEqual(self.rows_of_no(Never(told, word="none"), Rules(["end"])), None)
            early = Procedure(["end"], ["a"], [FIND, ("if", ("found", "r"), (*tell, *middle), ())])
            self.assertEqual(self.rows_of_no(Alike(told, early), Rules(["end"])), 1)
        written = Procedure(["end"], ["a"], [FIND, ("if", ("found", "r"), [
            ("set", "r", "end", ("plus", field("r", "end"), 1)), ("move", field("r"), 2),
            ("return", (field("r"), field("r", "end")))], [])])
        ahead = Procedure(["end"], ["a"], [FIND, ("if", ("found", "r"), [
            ("move", field("r"), 2), ("set", "r", "end", ("plus", field("r", "end"), 1)),
            ("return", (field("r"), field("r", "end")))], [])])
        self.assertEqual(self.rows_of_no(Alike(written, ahead), Rules(["end"])), None)


class TestWhatFollows(Asking):

    def test_both_orders(self):
        for seed in range(60):
            dice = random.Random(seed)
            for topic, kind in (("alike", Alike), ("exchanged", Exchanged), ("woven", Woven)):
                one, other = some_procedures(dice, topic, ("end",))
                if topic == "woven" and (len(one) + len(other) > 6 or not (one.fails_early and other.fails_early)):
                    continue
                rules = some_rules(dice, ("end",))
                self.assertEqual(self.rows_of_no(kind(one, other), rules), self.rows_of_no(kind(other, one), rules))

    def test_never_for_every_word_and_for_a_certain_one(self):
        seen = {}
        for seed in range(150):
            dice = random.Random(seed)
            procedure = some_procedures(dice, "never", ("end",))[0]
            rules = some_rules(dice, ("end",))
            rows = {}
            for word in ("none", "gone", "taken", "order", "busy", "x"):
                verdict = Never(procedure, word=word).ask(rules)
                if not verdict.holds:
                    self.check_no(Never(procedure, word=word), verdict, rules, word)
                    rows[word] = len(verdict.table)
                    seen[word] = seen.get(word, 0) + 1
            self.assertEqual(self.rows_of_no(Never(procedure), rules), min(rows.values(), default=None))
        self.assertGreaterEqual(len(seen), 3, seen)

    def test_again_twice_and_undone(self):
        for seed in range(100):
            dice = random.Random(seed)
            procedure = some_procedures(dice, "again", ("end",))[0]
            rules = some_rules(dice, ("end",))
            empty = Procedure(["end"], procedure.arguments, [])
            # What can be cut off behind its last statement leaves the same table twice.
            if Again(procedure).ask(rules).holds:
                self.assertTrue(Twice(procedure).ask(rules).holds)
            if not Never(procedure).ask(rules).holds:
                continue
            # What changes nothing can be undone by nothing, and be run twice.
            if Undone(procedure, empty).ask(rules).holds:
                self.assertTrue(Twice(procedure).ask(rules).holds)
                self.assertTrue(Undone(procedure, procedure).ask(rules).holds)
                self.assertTrue(Keeps(procedure).ask(rules).holds)

    def test_fewer_rules_against_more(self):
        seen = 0
        for seed in range(100):
            dice = random.Random(seed)
            topic = dice.choice(["alike", "never", "twice", "again", "undone", "exchanged"])
            question = question_of(topic, some_procedures(dice, topic, ("end",)))
            rules = some_rules(dice, ("end",))
            fewer = Rules(["end"], rows=rules.rows()[:1])
            if question.ask(fewer).holds:
                self.assertTrue(question.ask(rules).holds)
            else:
                rows = self.rows_of_no(question, rules)
                self.assertGreaterEqual(9 if rows is None else rows, self.rows_of_no(question, fewer))
                seen += 1
        self.assertGreater(seen, 20)


if __name__ == "__main__":
    unittest.main()
