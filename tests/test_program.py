"""Tests of what holds over the whole program: lists and tuples, wrong values, and ways that lead to the same."""

import random
import unittest

from helpers import Maker
from lookedrows.cases import Case, cases_of
from lookedrows.desk import Desk
from lookedrows.errors import Failed, InvalidArguments, InvalidName
from lookedrows.meetings import Woven
from lookedrows.pages import read_page, write_page
from lookedrows.procedures import Procedure
from lookedrows.questions import Alike, Keeps, Never, Question, Twice
from lookedrows.regions import Outlook
from lookedrows.rules import Rules
from lookedrows.running import run, walk
from lookedrows.shelves import Shelf
from lookedrows.systems import System
from lookedrows.tables import Table
from lookedrows.texts import procedure_text, read_procedure
from lookedrows.verdicts import No
from players import Worker

A, B = ("name", "a"), ("name", "b")
YES, ALL = ("true",), (None, None)
KEY, END = ("own", "key"), ("own", "end")
GREAT = 10 ** 30


def frozen(value):
    """A copy of a value that tells lists from tuples."""
    if isinstance(value, (list, tuple)):
        return (type(value), tuple(frozen(each) for each in value))
    return value


class TestOneProcedureByAllWays(unittest.TestCase):

    def check(self, procedure, table, numbers):
        ending, behind = run(procedure, table, *numbers)
        told = list(walk(procedure, table, *numbers))
        if ending[0] == "returned":
            self.assertTrue(told[-1] == behind)
        else:
            self.assertTrue(behind == table)
        self.assertTrue(told[0] == table)
        self.by_first_statements(procedure, table, numbers, told)
        self.by_weavings(procedure, table, numbers, ending, told[-1])
        self.by_shelf_and_desk(procedure, table, numbers, ending, behind)
        back = read_procedure(procedure_text(procedure))
        self.assertTrue(back == procedure)
        self.assertEqual(run(back, table, *numbers), (ending, behind))
        return ending

    def by_first_statements(self, procedure, table, numbers, told):
        """Each table on the way is that behind a run of the first statements."""
        for many, each in enumerate(told):
            self.assertTrue(run(procedure.first(many), table, *numbers)[1] == each)
        if len(told) <= len(procedure):
            # The run ended with this statement: by a return, or by a failure behind the last table that was told.
            first = run(procedure.first(len(told) - 1), table, *numbers)[0]
            further = run(procedure.first(len(told)), table, *numbers)[0]
            self.assertIn("failed" if further[0] == "failed" else first[0], ("failed", "returned"))

    def by_weavings(self, procedure, table, numbers, ending, last):
        """A procedure without statements has nothing to say in a weaving."""
        if procedure.fails_early:
            quiet = Procedure(procedure.columns[1:], [], [])
            self.assertEqual(Woven(procedure, quiet).woven("0" * len(procedure), table, *numbers),
                             (ending, ("returned", []), last))
            self.assertEqual(Woven(quiet, procedure).woven("1" * len(procedure), table, *numbers),
                             (("returned", []), ending, last))

    def by_shelf_and_desk(self, procedure, table, numbers, ending, behind):
        shelf = Shelf()
        shelf.apply(("enter", "what", procedure), ("enter", "base", table))
        desk = Desk(shelf=shelf.twin())
        page = read_page(write_page(shelf))
        answer = desk.say(" ".join(["run", "new", "what", "base", *map(str, numbers)]))
        for each in (shelf, page):
            if ending[0] == "returned":
                each.apply(("run", "new", "what", "base", numbers))
                self.assertTrue(each.entry("new") == behind)
            else:
                with self.assertRaises(Failed) as caught:
                    each.apply(("run", "new", "what", "base", numbers))
                self.assertEqual(caught.exception.word, ending[1])
        self.assertEqual(answer, "done" if ending[0] == "returned" else "error Failed")
        if ending[0] == "returned":
            self.assertTrue(desk.shelf().entry("new") == behind)
            self.assertTrue(shelf == page)
            self.assertTrue(desk.shelf() == page)

    def test_random_procedures(self):
        seen = {}
        for seed in range(700):
            dice = random.Random(seed)
            columns = dice.choice([(), ("end",), ("x", "y")])
            kind = dice.choice([Maker, Worker])
            maker = kind(dice, columns=columns, arguments=("a", "b")[:dice.randint(0, 2)])
            if kind is Worker:
                procedure = maker.procedure(9, 4)
            else:
                procedure = Procedure(columns, maker.arguments, (*maker.finds(), *maker.body(dice.randint(0, 4))))
            table = Table(columns, maker.rows(dice.randint(0, 5)))
            ending = self.check(procedure, table, [dice.randint(-1, 6) for _ in maker.arguments])
            word = ending[1] if ending[0] == "failed" else "returned"
            seen[word] = seen.get(word, 0) + 1
        for word in ("returned", "none", "taken", "order", "gone", "busy"):
            self.assertGreater(seen.get(word, 0), 2, seen)

    def test_cases_and_questions_of_the_same_runs(self):
        """A case that matches, a table that shows a failure, and a region agree with the run."""
        for seed in range(60):
            dice = random.Random(seed)
            worker = Worker(dice, arguments=("a",))
            procedure = worker.procedure(4)
            rules = Rules(["end"])
            cases = {many: cases_of(rules, procedure, many) for many in range(3)}
            outlook = Outlook(rules, procedure)
            verdict = Never(procedure).ask(rules)
            for _ in range(10):
                table = Table(["end"], worker.rows(dice.randint(0, 2)))
                number = dice.randint(-1, 6)
                ending = run(procedure, table, number)[0]
                matching = [case for case in cases[len(table)] if case.matches(table, number)]
                self.assertEqual([case.ending[0] for case in matching], [ending[0]])
                self.assertTrue(outlook.may_return(number) if ending[0] == "returned" else outlook.may_fail(number))
                self.assertIs(Never(procedure).fails(rules, table, number), ending[0] == "failed")
                if ending[0] == "failed":
                    self.assertFalse(verdict.holds)
                    self.assertLessEqual(len(verdict.table), len(table))


class TestListsAndTuples(unittest.TestCase):

    def test_a_tuple_in_the_place_of_a_list(self):
        for kind in (list, tuple):
            row, rule, after = (1, 2), ("below", KEY, END), ("atmost", END, ("next", "key"))
            table = Table(kind(["end"]), kind([row]))
            rules = Rules(kind(["end"]), rows=kind([rule]), nexts=kind([after]))
            statements = kind([("if", YES, kind([("insert", "r", kind([A, A]))]), kind([("return", kind([A]))]))])
            procedure = Procedure(kind(["end"]), kind(["a"]), statements)
            self.assertTrue(table == Table(["end"], [(1, 2)]))
            self.assertEqual((rules.rows(), rules.nexts()), ([rule], [after]))
            self.assertEqual(procedure.statements(), [("if", YES, (("insert", "r", (A, A)),), (("return", (A,)),))])
            self.assertEqual(System(kind([("a", "b", 1)])).comparisons(), [("a", "b", 1)])
            self.assertEqual(System([("a", "b", 1)]).on(kind(["a", "b"])).comparisons(), [("a", "b", 1)])
            self.assertEqual((len(table + kind([(3, 4)])), len(table - kind([1, 7]))), (2, 0))
            no = No(Never(procedure), rules, table, kind([5]))
            self.assertEqual(no.numbers, (5,))
            self.assertEqual(Case(System(), ("returned", kind([("a", 0)])), kind([(("a", 1),)]), arguments=kind(["a"]))
                             .ending, ("returned", [("a", 0)]))
            shelf = Shelf()
            shelf.apply(("enter", "p", Procedure([], ["a"], [("insert", "r", [A])])), ("enter", "t", Table([])),
                        ("run", "n", "p", "t", kind([5])))
            self.assertEqual(shelf.entry("n").rows(), [(5,)])

    def test_nothing_that_is_passed_is_changed_or_kept(self):
        columns, rows, more = ["end"], [(1, 2)], [(3, 4)]
        rules = [("below", KEY, END)]
        inner, values = [("insert", "r", [A, A])], [A]
        statements = [("if", YES, inner, [("return", values)])]
        arguments, numbers, comparisons = ["a"], [7], [("a", "b", 1)]
        given = [columns, rows, more, rules, inner, values, statements, arguments, numbers, comparisons]
        before = frozen(given)
        table = Table(columns, rows)
        made = [table, table + more, table - [1], Rules(columns, rows=rules), Procedure(columns, arguments, statements),
                System(comparisons)]
        no = No(Never(made[4]), made[3], table, numbers)
        shelf = Shelf()
        shelf.apply(("enter", "p", made[4]), ("enter", "t", table), ("run", "n", "p", "t", numbers))
        self.assertEqual(frozen(given), before)
        page, told = write_page(shelf), [repr(each) for each in made]
        for each in given:
            each.append(None)
        self.assertEqual((write_page(shelf), [repr(each) for each in made], no.numbers), (page, told, (7,)))
        self.assertEqual(made[4].statements(), [("if", YES, (("insert", "r", (A, A)),), (("return", (A,)),))])
        self.assertEqual((made[0].rows(), made[5].comparisons()), ([(1, 2)], [("a", "b", 1)]))

    def test_each_list_that_is_returned_is_new(self):
        procedure = Procedure(["end"], ["a"], [("insert", "r", (A, A)), ("return", (A,))])
        rules, table = Rules(["end"], rows=[YES], nexts=[YES]), Table(["end"], [(1, 2)])
        system, shelf, desk = System([("a", "b", 1)]), Shelf(), Desk()
        shelf.apply(("enter", "p", procedure), ("enter", "r", rules))
        shelf.asked("twice", "r", "p")
        desk.say("names")
        yes, outlook = Twice(procedure).ask(rules), Outlook(rules, procedure)
        woven = Woven(procedure.first(1), procedure.first(1))
        for method in (
            procedure.statements, procedure.found_names, rules.rows, rules.nexts, table.rows, table.all_keys,
            system.comparisons, system.unknowns, system.outside, lambda: yes.cases(1), Question(procedure).procedures,
            outlook.returns, outlook.fails, outlook.words, woven.weavings, shelf.names, shelf.kept, desk.log,
            lambda: cases_of(rules, procedure, 1), lambda: run(procedure, table, 5)[0][1],
            lambda: woven.woven("01", table, 5)[2].rows(), cases_of(rules, procedure, 1)[0].rows,
        ):
            first = method()
            self.assertIs(type(first), list)
            many = len(first)
            first.append(None)
            self.assertEqual(len(method()), many)


class TestWrongValues(unittest.TestCase):

    def test_true_and_false_are_no_integers(self):
        put = Procedure([], ["a"], [("insert", "r", (A,))])
        for wrong in (True, False):
            self.assertRaises(InvalidArguments, run, put, Table([]), wrong)
            self.assertRaises(InvalidArguments, Outlook(Rules([]), put).may_return, wrong)
            self.assertRaises(InvalidArguments, Alike(put, put).fails, Rules([]), Table([]), wrong)
            self.assertRaises(InvalidName, lambda: Never(put, word=wrong))

    def test_a_call_that_raises_changes_nothing(self):
        shelf, desk = Shelf(), Desk()
        shelf.apply(("enter", "p", Procedure([], ["a"], [("insert", "r", (A,))])), ("enter", "t", Table([], [(1,)])))
        page = write_page(shelf)
        for commands in ([("drop", "p"), ("drop", "p")], [("run", "n", "p", "t", [1])], [None]):
            with self.assertRaises(ValueError if commands[0] != ("drop", "p") else LookupError):
                shelf.apply(*commands)
            self.assertEqual((write_page(shelf), shelf.history(), shelf.busy), (page, (1, 0), False))
        desk.say("undo")
        self.assertEqual((desk.shelf().history(), len(desk)), ((0, 0), 1))

    def test_the_same_argument_twice(self):
        put = Procedure([], ["a"], [("insert", "r", (A,))])
        self.assertEqual(len(Question(put, put, put).procedures()), 3)
        self.assertTrue(Alike(put, put).ask(Rules([])).holds)
        self.assertEqual(Rules([], rows=[YES]).some(0, 0).rows(), [YES])
        shelf = Shelf()
        shelf.apply(("enter", "p", put), ("rename", "p", "q"), ("rename", "q", "p"))
        self.assertEqual(shelf.names("procedure", "procedure"), ["p"])
        again = ("replace", "p", put)
        shelf.apply(again, again)
        self.assertEqual(shelf.history(), (2, 0))
        self.assertEqual(Outlook(Rules([]), put).fails("taken", "taken")[0], System())
        self.assertEqual(run(Procedure([], ["a", "b"], [("return", (A, B))]), Table([]), 5, 5)[0], ("returned", [5, 5]))

    def test_integers_that_were_returned_may_be_passed_again(self):
        put = Procedure([], ["a"], [("insert", "r", (("plus", A, GREAT),)), ("return", (("plus", A, GREAT),))])
        number = GREAT
        table = Table([])
        for _ in range(30):
            ending, table = run(put, table, number)
            number = ending[1][0]
        self.assertEqual((number, len(table)), (31 * GREAT, 30))
        shelf = Shelf()
        shelf.apply(("enter", "p", put), ("enter", "t", table), ("run", "n", "p", "t", [number]))
        self.assertEqual(shelf.entry("n").all_keys()[-1], 32 * GREAT)
        self.assertTrue(read_page(write_page(shelf)) == shelf)
        self.assertIs(Never(put).fails(Rules([]), table, number - GREAT), True)
        self.assertIs(Never(put).fails(Rules([]), table, number), False)
        self.assertTrue(Keeps(put).ask(Rules([])).holds)


if __name__ == "__main__":
    unittest.main()
