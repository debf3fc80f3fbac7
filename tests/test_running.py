"""Tests of lookedrows.running."""

import random
import unittest

from helpers import Maker, modelled
from lookedrows.errors import ColumnsDiffer, InvalidArguments, TableError
from lookedrows.procedures import Procedure
from lookedrows.running import run, walk
from lookedrows.tables import Table

A, B, ONE, TWO = ("name", "a"), ("name", "b"), ("number", 1), ("number", 2)
KEY, END = ("own", "key"), ("own", "end")
YES, ALL = ("true",), (None, None)
GREAT = 10 ** 30
ROWS = [(1, 5), (3, 3), (6, 0), (8, 5)]


def field(name, column="key"):
    return ("field", name, column)


def find(name, key):
    """The statement that finds the row with a key."""
    return ("find", name, "first", ALL, ("same", KEY, ("number", key)))


def told(*values):
    return ("return", values)


class Runs(unittest.TestCase):

    def check(self, statements, ending, rows=None, numbers=(), before=ROWS):
        """Runs statements on a table and checks the ending and the rows behind it; None for the rows before it."""
        table = Table(["end"], before)
        procedure = Procedure(["end"], ["a", "b", "c"][:len(numbers)], statements)
        ended, behind = run(procedure, table, *numbers)
        self.assertEqual(ended, ending, statements)
        self.assertIs(type(ended), tuple)
        self.assertEqual(behind.rows(), sorted(before) if rows is None else rows, statements)
        self.assertEqual(behind.columns, ("key", "end"))
        self.assertEqual(table.rows(), sorted(before))

    def returns(self, statements, numbers, rows=None, given=()):
        self.check(statements, ("returned", list(numbers)), rows, given)

    def fails(self, statements, word, given=()):
        self.check(statements, ("failed", word), None, given)


class TestFind(Runs):

    def key_of(self, *found, given=(), ahead=()):
        """The key of the row that a find tells, or None for no row."""
        tell = ("if", ("found", "r"), [told(field("r"))], [told()])
        procedure = Procedure(["end"], ["a", "b", "c"][:len(given)], [*ahead, ("find", "r", *found), tell])
        ended = run(procedure, Table(["end"], ROWS), *given)
        self.assertEqual(ended[1].rows(), ROWS)
        return ended[0][1][0] if ended[0][1] else None

    def test_first_and_last(self):
        for way, condition, key in (
            ("first", YES, 1), ("last", YES, 8), ("first", ("same", END, ("number", 5)), 1),
            ("last", ("same", END, ("number", 5)), 8), ("first", ("below", END, ("number", 5)), 3),
            ("last", ("below", END, ("number", 5)), 6), ("first", ("atmost", ("number", 5), END), 1),
            ("first", ("below", END, KEY), 6), ("last", ("same", END, KEY), 3), ("last", ("below", KEY, END), 1),
            ("first", ("same", END, ("number", 9)), None), ("last", ("not", YES), None),
            ("first", ("same", ("plus", END, 5), ("plus", KEY, 2)), 8), ("first", ("found", "r"), None),
            ("first", ("not", ("found", "r")), 1), ("last", ("or", ("below", KEY, TWO), ("found", "s")), 1),
            ("last", ("and", ("below", KEY, ("number", 8)), ("atmost", ONE, END)), 3),
        ):
            self.assertEqual(self.key_of(way, ALL, condition), key, (way, condition))

    def test_ranges(self):
        for low, high, least, most in (
            (None, None, 1, 8), (3, None, 3, 8), (4, None, 6, 8), (None, 8, 1, 6), (None, 7, 1, 6), (3, 6, 3, 3),
            (3, 7, 3, 6),
            (6, 6, None, None), (6, 3, None, None), (9, None, None, None), (None, 1, None, None), (8, None, 8, 8),
            (None, 2, 1, 1), (-GREAT, GREAT, 1, 8), (2, 3, None, None), (4, 6, None, None),
        ):
            bounds = tuple(None if k is None else ("number", k) for k in (low, high))
            self.assertEqual(self.key_of("first", bounds, YES), least, bounds)
            self.assertEqual(self.key_of("last", bounds, YES), most, bounds)
        self.assertEqual(self.key_of("first", (A, B), YES, given=(2, 7)), 3)
        self.assertEqual(self.key_of("last", (("plus", A, -1), ("plus", B, -3)), YES, given=(4, 7)), 3)
        self.assertEqual(self.key_of("last", (field("s"), field("t")), YES, ahead=[find("s", 3), find("t", 8)]), 6)

    def test_condition_and_range_together(self):
        fives = ("same", END, ("number", 5))
        self.assertEqual(self.key_of("first", (TWO, None), fives), 8)
        self.assertEqual(self.key_of("last", (None, ("number", 8)), fives), 1)
        self.assertEqual(self.key_of("first", (TWO, ("number", 8)), fives), None)

    def test_own_row_in_its_condition_and_range(self):
        # The condition and the range of a find speak of the row that was found before it.
        self.assertEqual(self.key_of("first", ALL, ("below", field("r"), KEY), ahead=[find("r", 3)]), 6)
        self.assertEqual(self.key_of("last", (None, field("r")), YES, ahead=[find("r", 6)]), 3)
        self.assertEqual(self.key_of("first", ALL, ("not", ("found", "r")), ahead=[find("r", 3)]), None)

    def test_a_find_without_a_row_forgets_the_one_before(self):
        self.fails([find("r", 3), find("r", 4), told(field("r"))], "none")
        self.returns([find("r", 3), find("r", 4), ("if", ("found", "r"), [told(ONE)], [told(TWO)])], [2])

    def test_on_no_rows(self):
        empty = [("find", "r", "last", ALL, YES), ("if", ("found", "r"), [("fail", "x")], [])]
        self.check(empty, ("returned", []), [], before=[])
        # Fields are read first, also if there is no row.
        self.check([("find", "r", "last", ALL, ("same", field("q"), KEY))], ("failed", "none"), [], before=[])


class TestStep(Runs):

    def test_next_and_prior(self):
        for key, way, other in ((1, "next", 3), (3, "next", 6), (6, "next", 8), (8, "prior", 6), (3, "prior", 1)):
            self.returns([find("s", key), ("step", "r", way, "s"), told(field("r"), field("s"))], [other, key])
            self.returns([find("r", key), ("step", "r", way, "r"), told(field("r"))], [other])
        for key, way in ((8, "next"), (1, "prior")):
            self.returns([find("s", key), find("r", 3), ("step", "r", way, "s"),
                          ("if", ("found", "r"), [told(ONE)], [told(TWO)])], [2])

    def test_from_no_row(self):
        for ahead in ([], [find("s", 99)]):
            for way in ("next", "prior"):
                tell = ("if", ("found", "r"), [told(ONE)], [told(TWO)])
                self.returns([find("r", 3), *ahead, ("step", "r", way, "s"), tell], [2])

    def test_from_a_deleted_row(self):
        for way in ("next", "prior"):
            self.fails([find("s", 3), ("delete", "s"), ("step", "r", way, "s")], "gone")
            self.fails([find("s", 3), ("clear", ALL, YES), ("step", "r", way, "s")], "gone")

    def test_over_new_and_deleted_rows(self):
        self.returns([find("s", 3), ("insert", "n", [("number", 4), ONE]), ("step", "r", "next", "s"),
                      ("step", "t", "next", "r"),
                      told(field("r"), field("t"))], [4, 6], [(1, 5), (3, 3), (4, 1), (6, 0), (8, 5)])
        self.returns([find("s", 3), find("d", 6), ("delete", "d"), ("step", "r", "next", "s"), told(field("r"))],
                     [8], [(1, 5), (3, 3), (8, 5)])


class TestInsertDeleteSet(Runs):

    def test_insert(self):
        for key in (-GREAT, 0, 2, 4, 7, 9, GREAT):
            rows = sorted([*ROWS, (key, 7)])
            self.returns([("insert", "r", [A, ("number", 7)]), told(field("r"), field("r", "end"))], [key, 7], rows,
                         (key,))
        for key in (1, 3, 6, 8):
            self.fails([("insert", "r", [A, ("number", 7)])], "taken", (key,))
        self.check([("insert", "r", [A, B])], ("returned", []), [(5, 6)], (5, 6), before=[])
        self.fails([("insert", "r", (ONE, field("q")))], "none")

    def test_insert_again(self):
        self.fails([("insert", "r", (TWO, TWO)), ("insert", "r", (TWO, TWO))], "taken")
        self.returns([find("d", 3), ("delete", "d"), ("insert", "r", (("number", 3), ONE)), told(field("r", "end"))],
                     [1], [(1, 5), (3, 1), (6, 0), (8, 5)])
        # The row that was deleted stays deleted, whatever is inserted in its place.
        self.fails([find("d", 3), ("delete", "d"), ("insert", "r", (("number", 3), ONE)), told(field("d"))], "gone")

    def test_delete(self):
        self.returns([find("r", 3), ("delete", "r")], [], [(1, 5), (6, 0), (8, 5)])
        self.fails([("delete", "r")], "none")
        self.fails([find("r", 4), ("delete", "r")], "none")
        self.fails([find("r", 3), ("delete", "r"), ("delete", "r")], "gone")
        self.fails([find("r", 3), find("s", 3), ("delete", "r"), ("delete", "s")], "gone")

    def test_a_deleted_row_is_found(self):
        tell = ("if", ("found", "r"), [told(ONE)], [told(TWO)])
        self.returns([find("r", 3), ("delete", "r"), tell], [1], [(1, 5), (6, 0), (8, 5)])
        self.returns([find("r", 3), ("clear", ALL, YES), tell], [1], [])

    def test_set(self):
        self.returns([find("r", 3), ("set", "r", "end", A), told(field("r", "end"))], [9],
                     [(1, 5), (3, 9), (6, 0), (8, 5)], (9,))
        self.returns([find("r", 3), ("set", "r", "end", ("plus", field("r", "end"), 4))], [],
                     [(1, 5), (3, 7), (6, 0), (8, 5)])
        self.returns([find("r", 3), find("s", 8), ("set", "r", "end", field("s"))], [],
                     [(1, 5), (3, 8), (6, 0), (8, 5)])
        self.fails([("set", "r", "end", ONE)], "none")
        self.fails([find("r", 3), ("delete", "r"), ("set", "r", "end", ONE)], "gone")

    def test_set_and_delete_look_at_their_row_first(self):
        gone = [find("g", 3), ("delete", "g")]
        self.fails([*gone, ("set", "r", "end", field("g"))], "none")
        self.fails([*gone, ("set", "g", "end", field("r"))], "gone")
        self.fails([*gone, find("r", 6), ("set", "r", "end", field("g"))], "gone")
        self.fails([*gone, find("r", 6), ("set", "r", "end", field("q"))], "none")

    def test_a_field_of_a_row_that_is_none_or_gone(self):
        self.fails([told(field("r"))], "none")
        self.fails([told(("plus", field("r"), 1))], "none")
        self.fails([find("r", 3), ("delete", "r"), told(field("r"))], "gone")
        self.fails([find("r", 3), ("clear", ALL, YES), told(field("r", "end"))], "gone")


class TestClearChangeMove(Runs):

    def test_clear(self):
        self.returns([("clear", ALL, YES)], [], [])
        self.returns([("clear", ALL, ("not", YES))], [])
        self.returns([("clear", (("number", 3), ("number", 8)), YES)], [], [(1, 5), (8, 5)])
        self.returns([("clear", (None, A), ("same", END, ("number", 5)))], [], ROWS[1:], (8,))
        self.returns([("clear", (A, None), ("below", END, KEY))], [], [(1, 5), (3, 3)], (2,))
        # A field of a row that is cleared itself.
        self.returns([find("r", 1), ("clear", ALL, ("same", END, field("r", "end")))], [], [(3, 3), (6, 0)])
        self.fails([find("r", 1), ("clear", ALL, ("same", END, field("r", "end"))), told(field("r"))], "gone")
        self.fails([find("r", 1), ("clear", ALL, YES), ("clear", ALL, ("same", END, field("r", "end")))], "gone")

    def test_change(self):
        self.returns([("change", ALL, YES, "end", A)], [], [(1, 4), (3, 4), (6, 4), (8, 4)], (4,))
        self.returns([("change", (TWO, None), ("below", END, KEY), "end", ("plus", KEY, 100))], [],
                     [(1, 5), (3, 3), (6, 106), (8, 108)])
        self.returns([("change", (None, ("number", 8)), YES, "end", ("plus", END, -1))], [],
                     [(1, 4), (3, 2), (6, -1), (8, 5)])
        # Fields of a row that is changed itself are those before the change.
        self.returns([find("r", 3), ("change", ALL, ("atmost", field("r", "end"), END), "end",
                                     ("plus", field("r", "end"), 4)),
                      told(field("r", "end"))], [7], [(1, 7), (3, 7), (6, 0), (8, 7)])
        self.returns([("change", (A, B), YES, "end", ONE)], [], None, (4, 6))
        self.check([("change", ALL, YES, "end", field("q"))], ("failed", "none"), [], before=[])

    def test_move_forward_and_back(self):
        for key, k, keys in (
            (0, 5, [6, 8, 11, 13]), (0, -5, [-4, -2, 1, 3]), (1, -100, [-99, -97, -94, -92]), (2, 1, [1, 4, 7, 9]),
            (2, -1, [1, 2, 5, 7]), (3, -1, [1, 2, 5, 7]), (4, -2, [1, 3, 4, 6]), (7, -1, [1, 3, 6, 7]),
            (8, GREAT, [1, 3, 6, GREAT + 8]),
            (9, -50, [1, 3, 6, 8]), (9, 50, [1, 3, 6, 8]), (6, 0, [1, 3, 6, 8]), (2, -2, None), (3, -2, None),
            (3, -9, None),
            (4, -3, None), (5, -3, None), (6, -4, None), (8, -2, None), (7, -2, None),
        ):
            statements = [("move", A, k)]
            if keys is None:
                self.fails(statements, "order", (key,))
            else:
                self.returns(statements, [], [(new, end) for new, (_, end) in zip(keys, ROWS)], (key,))
        self.check([("move", A, -5)], ("returned", []), [], (5,), before=[])

    def test_several_moves(self):
        self.returns([("move", TWO, 10), ("move", ("number", 15), 10), ("move", ("number", 13), -11)], [],
                     [(1, 5), (2, 3), (15, 0), (17, 5)])
        self.fails([("move", TWO, 10), ("move", ("number", 15), 10), ("move", ("number", 13), -12)], "order")

    def test_found_rows_stay_the_same(self):
        self.returns([find("r", 6), find("s", 1), ("move", TWO, 10), told(field("r"), field("s"), field("r", "end"))],
                     [16, 1, 0], [(1, 5), (13, 3), (16, 0), (18, 5)])
        self.returns([find("r", 6), ("move", field("r"), 1), ("move", field("r"), 1), ("step", "p", "prior", "r"),
                      told(field("r"), field("p"))], [8, 3], [(1, 5), (3, 3), (8, 0), (10, 5)])
        self.returns([find("r", 6), ("set", "r", "end", TWO), ("change", ALL, YES, "end", ("plus", END, 1)),
                      ("move", ONE, 1),
                      told(field("r", "end"), field("r"))], [3, 7], [(2, 6), (4, 4), (7, 3), (9, 6)])


class TestIfFailReturn(Runs):

    def test_if(self):
        branch = ("if", ("below", A, B), [("insert", "r", (TWO, TWO)), told(A)],
                  [find("r", 3), ("delete", "r"), told(B)])
        self.returns([branch], [4], [(1, 5), (2, 2), (3, 3), (6, 0), (8, 5)], (4, 5))
        self.returns([branch], [5], [(1, 5), (6, 0), (8, 5)], (5, 5))
        self.returns([("if", YES, [], [("fail", "x")]), told(ONE)], [1])
        self.returns([("if", ("not", YES), [("fail", "x")], []), told(ONE)], [1])

    def test_a_return_in_an_if_ends_the_run(self):
        nested = ("if", YES, [("if", YES, [told(TWO), ("fail", "x")], []), ("fail", "y")], [])
        self.returns([nested, ("fail", "w")], [2])
        self.returns([told(), ("fail", "x")], [])

    def test_comparisons(self):
        for form, numbers, holds in (
            ("atmost", (1, 2), True), ("atmost", (2, 2), True), ("atmost", (3, 2), False), ("below", (1, 2), True),
            ("below", (2, 2), False), ("below", (3, 2), False), ("same", (1, 2), False), ("same", (2, 2), True),
            ("same", (3, 2), False), ("same", (GREAT ** 2, GREAT ** 2), True),
            ("below", (GREAT ** 2, GREAT ** 2 + 1), True),
        ):
            self.returns([("if", (form, A, B), [told(ONE)], [told(TWO)])], [1 if holds else 2], None, numbers)
            shifted = (form, ("plus", A, 5), ("plus", B, 5))
            self.returns([("if", ("not", shifted), [told(ONE)], [told(TWO)])], [2 if holds else 1], None, numbers)

    def test_second_parts_are_read_only_if_needed(self):
        wrong, no = ("same", field("q"), ONE), ("not", YES)
        gone = [find("g", 3), ("delete", "g")]
        wrong_gone = ("below", ONE, field("g"))
        for condition, ending in (
            (("and", no, wrong), 2), (("or", YES, wrong), 1), (("and", YES, wrong), None), (("or", no, wrong), None),
            (("and", wrong, no), None), (("or", wrong, YES), None), (("not", ("and", no, wrong)), 1),
            (("or", ("and", no, wrong), YES), 1), (("and", ("or", YES, wrong), no), 2),
        ):
            statements = [("if", condition, [told(ONE)], [told(TWO)])]
            if ending is None:
                self.fails(statements, "none")
            else:
                self.returns(statements, [ending])
        self.fails([*gone, ("if", ("and", wrong_gone, wrong), [], [])], "gone")
        self.fails([*gone, ("if", ("or", ("and", no, wrong), wrong_gone), [], [])], "gone")
        self.fails([*gone, ("if", ("same", field("g"), field("q")), [], [])], "gone")
        self.fails([*gone, ("if", ("same", field("q"), field("g")), [], [])], "none")

    def test_all_fields_of_c_are_read_first(self):
        wrong, no = ("same", ("plus", field("q"), 1), KEY), ("not", YES)
        for condition in (("and", no, wrong), ("or", YES, wrong), wrong):
            for bounds in (ALL, (("number", 99), None)):
                self.fails([("find", "r", "first", bounds, condition)], "none")
                self.fails([("clear", bounds, condition)], "none")
                self.fails([("change", bounds, condition, "end", ONE)], "none")

    def test_order_in_which_values_are_read(self):
        gone = [find("g", 3), ("delete", "g")]
        none_first, gone_first = (field("q"), field("g", "end")), (field("g", "end"), field("q"))
        for pair, word in ((none_first, "none"), (gone_first, "gone")):
            v, w = pair
            for statement in (
                ("find", "r", "first", (v, w), YES), ("find", "r", "first", (v, None), ("same", w, KEY)),
                ("find", "r", "last", (None, v), ("same", w, KEY)),
                ("find", "r", "last", ALL, ("and", ("same", v, KEY), ("same", w, w))),
                ("find", "r", "last", ALL, ("same", v, w)), ("insert", "r", [v, w]), ("clear", (v, w), YES),
                ("clear", (None, v), ("not", ("same", w, KEY))), ("clear", ALL, ("or", YES, ("below", v, w))),
                ("change", (v, w), YES, "end", ONE), ("change", (v, None), ("same", w, w), "end", ONE),
                ("change", (None, v), YES, "end", w), ("change", ALL, ("same", v, KEY), "end", w), told(v, w),
                told(ONE, v, w),
                ("change", ALL, ("same", KEY, ("plus", v, 2)), "end", ("plus", w, 1)),
            ):
                self.fails([*gone, statement], word)
        self.fails([*gone, ("move", field("g"), 1)], "gone")
        self.fails([*gone, ("move", field("q"), 1)], "none")
        # The values are read before it is seen that the key is taken.
        self.fails([("insert", "r", (ONE, field("q")))], "none")

    def test_own_words(self):
        for word in ("busy", "none", "gone", "taken", "order", "sixsix", "returned"[:6]):
            self.fails([("insert", "r", (TWO, TWO)), ("if", YES, [("fail", word)], []), told(ONE)], word)

    def test_a_failed_run_leaves_the_table(self):
        change = [("clear", (TWO, None), YES), ("insert", "r", (TWO, TWO)), ("change", ALL, YES, "end", ("number", 9)),
                  ("move", ONE, 7)]
        for last, word in ((("fail", "x"), "x"), (("delete", "q"), "none"), (told(field("q")), "none"),
                           (("insert", "r", (("number", 8), ONE)), "taken")):
            self.fails([*change, last], word)
            self.fails([("if", YES, [*change, last], [])], word)

    def test_return(self):
        self.returns([told()], [])
        self.returns([], [])
        self.returns([told(A, B, ("plus", A, -1), ("number", -7))], [4, GREAT ** 3, 3, -7], None, (4, GREAT ** 3))

    def test_great_integers(self):
        self.check([("insert", "r", (A, ("plus", B, GREAT))), ("move", A, GREAT), told(field("r"), field("r", "end"))],
                   ("returned", [GREAT ** 3 + GREAT, -GREAT ** 4 + GREAT]),
                   [(GREAT ** 2, 0), (GREAT ** 3 + GREAT, -GREAT ** 4 + GREAT)], (GREAT ** 3, -GREAT ** 4),
                   before=[(GREAT ** 2, 0)])


class TestCalls(unittest.TestCase):

    def setUp(self):
        self.procedure = Procedure(["end"], ["a", "b"], [("insert", "r", (A, B)), told(A)])
        self.table = Table(["end"], ROWS)

    def calls(self, procedure, table, *numbers):
        return (lambda: run(procedure, table, *numbers)), (lambda: list(walk(procedure, table, *numbers)))

    def test_columns_differ_ahead_of_arguments(self):
        for table in (Table([]), Table(["ends"]), Table(["end", "a"]), Table(["a", "end"])):
            for numbers in ((2, 4), (), (None, None), (1, 2, 3)):
                for call in self.calls(self.procedure, table, *numbers):
                    with self.assertRaises(ColumnsDiffer) as caught:
                        call()
                    self.assertEqual(caught.exception.code, "ColumnsDiffer")
                    self.assertIsInstance(caught.exception, TableError)
        swapped = Procedure(["a", "b"], [], [])
        self.assertRaises(ColumnsDiffer, run, swapped, Table(["b", "a"]))

    def test_invalid_arguments(self):
        for numbers in ((), (1,), (1, 2, 3), (True, 2), (2, False), (None, 2), (2, None), ("2", 4), (2, ""), ((2,), 4),
                        (2, [4]), ([2, 4],)):
            for call in self.calls(self.procedure, self.table, *numbers):
                with self.assertRaises(InvalidArguments) as caught:
                    call()
                self.assertEqual(caught.exception.code, "InvalidArguments")
        self.assertEqual(self.table.rows(), ROWS)
        for call in self.calls(Procedure(["end"], [], []), self.table, 1):
            self.assertRaises(InvalidArguments, call)

    def test_results_are_new(self):
        ending, table = run(self.procedure, self.table, 2, 4)
        ending[1].append(7)
        table.rows().append((9, 9))
        again = run(self.procedure, self.table, 2, 4)
        self.assertEqual(again[0], ("returned", [2]))
        self.assertEqual(again[1].rows(), [(1, 5), (2, 4), (3, 3), (6, 0), (8, 5)])
        self.assertIs(type(again), tuple)
        self.assertIs(type(again[0][1]), list)
        self.assertEqual(self.procedure.statements(), [("insert", "r", (A, B)), told(A)])
        empty = Procedure(["end"], [], [])
        run(empty, self.table)[0][1].append(1)
        self.assertEqual(run(empty, self.table)[0], ("returned", []))

    def test_other_columns(self):
        procedure = Procedure(["x", "y", "z"], ["c"], [
            ("find", "r", "last", ALL, ("below", ("own", "z"), ("own", "x"))),
            ("set", "r", "y", ("plus", ("name", "c"), 1)),
            ("change", ALL, YES, "z", ("own", "y")), told(field("r", "z"), field("r", "x"))])
        table = Table(["x", "y", "z"], [(4, 1, 2, 0), (1, 5, 6, 4), (9, 0, 3, 0)])
        self.assertEqual(run(procedure, table, 7)[0], ("returned", [8, 1]))
        self.assertEqual(run(procedure, table, 7)[1].rows(), [(1, 5, 6, 6), (4, 1, 8, 8), (9, 0, 3, 3)])
        keys = Procedure([], ["a"], [("insert", "r", [A]), ("step", "s", "next", "r"), told(field("s"))])
        self.assertEqual(run(keys, Table([], [(1,), (5,)]), 3), (("returned", [5]), Table([], [(1,), (3,), (5,)])))


class TestWalk(unittest.TestCase):

    def tables(self, statements, *numbers):
        procedure = Procedure(["end"], ["a", "b"][:len(numbers)], statements)
        return [table.rows() for table in walk(procedure, Table(["end"], ROWS[:2]), *numbers)]

    def test_statement_by_statement(self):
        statements = [find("r", 3), ("insert", "s", (A, ONE)), ("delete", "r"),
                      ("if", YES, [("move", TWO, 5), ("clear", (None, TWO), YES)], [])]
        self.assertEqual(self.tables(statements, 2), [
            [(1, 5), (3, 3)], [(1, 5), (3, 3)], [(1, 5), (2, 1), (3, 3)], [(1, 5), (2, 1)], [(7, 1)]])
        self.assertEqual(self.tables([]), [[(1, 5), (3, 3)]])

    def test_up_to_a_return(self):
        clear = ("clear", (TWO, None), YES)
        self.assertEqual(self.tables([clear, told(), ("fail", "x"), clear]), [ROWS[:2], ROWS[:1], ROWS[:1]])
        ending = ("if", YES, [("insert", "r", (TWO, TWO)), told(ONE), clear], [])
        self.assertEqual(self.tables([ending, clear]), [ROWS[:2], [(1, 5), (2, 2), (3, 3)]])

    def test_up_to_a_failure(self):
        clear = ("clear", (TWO, None), YES)
        self.assertEqual(self.tables([clear, ("fail", "x"), clear]), [ROWS[:2], ROWS[:1]])
        self.assertEqual(self.tables([("if", YES, [clear, ("delete", "q")], []), clear]), [ROWS[:2]])
        self.assertEqual(self.tables([clear, ("insert", "r", (A, A)), clear], 1), [ROWS[:2], ROWS[:1]])

    def test_tables(self):
        procedure = Procedure(["end"], [], [("clear", ALL, YES)])
        table = Table(["end"], ROWS)
        told_tables = list(walk(procedure, table))
        self.assertEqual(told_tables, [table, Table(["end"])])
        self.assertEqual(table.rows(), ROWS)
        for each in told_tables:
            self.assertIsInstance(each, Table)
        early = walk(procedure, table)
        self.assertEqual(next(early), table)


class TestAgainstTheModel(unittest.TestCase):

    def test_random_procedures(self):
        seen = {}
        for seed in range(6000):
            dice = random.Random(seed)
            maker = Maker(dice, columns=dice.choice([(), ("end",), ("end",), ("x", "y")]),
                          arguments=("a", "b")[:dice.randint(0, 2)])
            statements = maker.finds()[:dice.randint(0, 9)] + maker.body(dice.randint(1, 5))
            rows = maker.rows(dice.randint(0, 5))
            numbers = [dice.randint(-1, 6) for _ in maker.arguments]
            procedure = Procedure(maker.columns[1:], maker.arguments, statements)
            table = Table(maker.columns[1:], rows)
            ending, model, tables = modelled(maker.columns, maker.arguments, statements, rows, numbers)
            ended, behind = run(procedure, table, *numbers)
            self.assertEqual(ended, ending, (statements, rows, numbers))
            self.assertEqual(behind.rows(), rows if ending[0] == "failed" else model.table(),
                             (statements, rows, numbers))
            self.assertEqual([each.rows() for each in walk(procedure, table, *numbers)], tables)
            self.assertEqual(table.rows(), rows)
            word = ending[1] if ending[0] == "failed" else len(ending[1])
            seen[word] = seen.get(word, 0) + 1
        for word in ("none", "gone", "taken", "order", "busy", "x", 0, 1, 2, 3, 4):
            self.assertGreater(seen[word], 20, seen)

    def test_rows_at_which_no_run_looks(self):
        removed = 0
        for seed in range(4000):
            dice = random.Random(seed)
            maker = Maker(dice)
            statements = maker.finds()[:dice.randint(0, 9)] + maker.body(dice.randint(1, 4), fields=dice.random() < 0.5)
            rows = maker.rows(dice.randint(1, 5))
            numbers = [dice.randint(-1, 6) for _ in maker.arguments]
            procedure, table = Procedure(["end"], ["a", "b"], statements), Table(["end"], rows)
            ending, model, _ = modelled(maker.columns, maker.arguments, statements, rows, numbers)
            behind = run(procedure, table, *numbers)[1]
            for at, row in enumerate(rows):
                if at in model.looked:
                    continue
                removed += 1
                left = model.rows.get(at, {}).values() if ending[0] == "returned" else row
                ended, other = run(procedure, table - [row[0]], *numbers)
                self.assertEqual(ended, ending, (statements, rows, numbers, row))
                self.assertEqual(other.rows(), [each for each in behind.rows() if each != tuple(left)])
        self.assertGreater(removed, 4000)

    def test_looks_are_as_many_as_said(self):
        for seed in range(2000):
            dice = random.Random(seed)
            maker = Maker(dice)
            statements = maker.finds() + maker.body(dice.randint(1, 6))
            numbers = [dice.randint(-1, 6) for _ in maker.arguments]
            model = modelled(maker.columns, maker.arguments, statements, maker.rows(dice.randint(0, 6)), numbers)[1]
            looks = Procedure(["end"], ["a", "b"], statements).looks
            self.assertLessEqual(len(model.looked - {None}), looks)


if __name__ == "__main__":
    unittest.main()
