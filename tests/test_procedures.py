"""Tests of lookedrows.procedures."""

import random
import unittest

from helpers import (WRONG, Maker, all_values, first_wrong_statement, in_order, is_list, right_name, right_statement,
                     ways_of)
from lookedrows.errors import InvalidArguments, InvalidColumns, InvalidCount, InvalidStatement, TableError
from lookedrows.procedures import Procedure
from test_tables import WRONG_COLUMNS

A, B, ONE = ("name", "a"), ("name", "b"), ("number", 1)
R_END, OWN_END = ("field", "r", "end"), ("own", "end")
YES = ("true",)
WRONG_ARGUMENTS = (
    None, True, False, 0, "", "a", "ab", ["a", "a"], ["a", "b", "a"], ["a", "b", "c", "d"], ["key"], ["A"], [""],
    ["own"],
    ["sevenll"], [None], [True], [1], [["a"]], [("a",)], ("b", "b"), ["a", 0], [A], {"a": 1},
)
# Statements over the columns key and end, and over the arguments a and b.
RIGHT = (
    ("find", "r", "first", (None, None), YES), ("find", "a", "last", (A, ("plus", B, -1)), ("below", OWN_END, A)),
    ("find", "s", "first", (R_END, None), ("and", ("found", "q"), ("same", ("plus", ("own", "key"), 3), R_END))),
    ("find", "s", "last", (None, ONE), ("not", ("not", ("not", ("not", ("not", YES)))))),
    ("step", "r", "next", "s"), ("step", "r", "prior", "r"), ("insert", "r", (A, B)), ("insert", "r", [ONE, R_END]),
    ("insert", "end", (("plus", R_END, 10 ** 30), ("plus", A, 0))), ("delete", "r"), ("delete", "fail"),
    ("set", "r", "end", A), ("set", "b", "end", ("field", "b", "key")), ("clear", (None, None), YES),
    ("clear", (A, R_END), ("or", ("atmost", OWN_END, ("own", "key")), ("found", "r"))),
    ("change", (None, B), YES, "end", OWN_END), ("change", (A, None), ("found", "r"), "end",
                                                 ("plus", ("own", "key"), -5)),
    ("move", A, -10 ** 30), ("move", ("plus", R_END, 2), 10 ** 30), ("move", ONE, 0),
    ("if", YES, (), ()), ("if", ("same", R_END, A), [], [("delete", "r")]),
    ("if", ("found", "r"), (("fail", "x"),), []),
    ("if", YES, [("if", YES, (("if", YES, (), []),), ())], ()), ("fail", "busy"), ("fail", "none"), ("fail", "sixsix"),
    ("return", ()), ("return", []), ("return", [A, B, ONE, R_END]), ("return", (("plus", A, 1),)),
)
NO_VALUES = (
    None, True, 1, "a", (), [], ("name", "c"), ("name", "end"), ("field", "r", "price"), ("field", "own", "end"),
    ("next", "end"), ("next", "key"), ("plus", ("name", "c"), 1), ("plus", ("next", "end"), 1), ["name", "a"],
    ("plus", ("field", "r", "a"), 1), ("number", True), ("number", 10 ** 30 + 1), ("plus", ONE[1], 1),
)
OWN = (OWN_END, ("own", "key"), ("plus", OWN_END, 1))
NO_OWN = (("own", "price"), ("own", "a"), ("plus", ("own", "b"), 1))
NO_CONDITIONS = tuple(("below", wrong, A) for wrong in NO_VALUES + NO_OWN) + tuple(
    ("not", ("same", A, wrong)) for wrong in NO_VALUES + NO_OWN) + (
    None, True, 0, "true", "", (), [], ["true"], ("found", "own"), ("found", "R"), ("maybe",), ("and", YES),
    ("or", YES, None),
    ("not", ("not", ("not", ("not", ("not", ("not", YES)))))), (["not"], YES), ("not", ["true"]))
OWN_CONDITIONS = tuple(("or", ("below", own, A), YES) for own in OWN) + tuple(("not", ("same", A, own)) for own in OWN)
NO_NAMES = (None, True, 0, "", "R", "key", "own", "sevenll", ("r",), ["r"], (), ("name", "a"))
NO_COLUMNS = (None, True, 0, "", "key", "price", "a", "r", "End", ("end",), ["end"], ())
NO_PAIRS = (None, True, 0, "", "ab", (), (None,), [None, None], (None, None, None), [A, B], (A,), A, ONE) + tuple(
    (wrong, None) for wrong in NO_VALUES[1:] + OWN + NO_OWN) + tuple((None, wrong) for wrong in NO_VALUES[1:] + OWN)
WORDS = (None, True, 0, "", "a", "First", ("first",), ["next"])


def wrong_statements():
    """Statements that are wrong in one part each, and what is no statement at all."""
    found = [("find", wrong, "first", (None, None), YES) for wrong in NO_NAMES]
    found += [("find", "r", wrong, (None, None), YES) for wrong in (*WORDS, "next", "prior")]
    found += [("find", "r", "last", wrong, YES) for wrong in NO_PAIRS]
    found += [("find", "r", "last", (A, None), wrong) for wrong in NO_CONDITIONS]
    found += [("step", wrong, "next", "r") for wrong in NO_NAMES] + [("step", "r", "next", wrong) for wrong in NO_NAMES]
    found += [("step", "r", wrong, "s") for wrong in (*WORDS, "first", "last")]
    found += [("insert", wrong, (A, B)) for wrong in NO_NAMES]
    found += [("insert", "r", (A, wrong)) for wrong in NO_VALUES + OWN] + [("insert", "r", [wrong, A]) for wrong in OWN]
    found += [("insert", "r", wrong) for wrong in (None, 0, "", "ab", (), (A,), [A], (A, B, A), [A, A, A], A, True)]
    found += [("delete", wrong) for wrong in NO_NAMES]
    found += [("set", wrong, "end", A) for wrong in NO_NAMES] + [("set", "r", wrong, A) for wrong in NO_COLUMNS]
    found += [("set", "r", "end", wrong) for wrong in NO_VALUES + OWN + NO_OWN]
    found += [("clear", wrong, YES) for wrong in NO_PAIRS] + [("clear", (None, B), wrong) for wrong in NO_CONDITIONS]
    found += [("change", wrong, YES, "end", A) for wrong in NO_PAIRS]
    found += [("change", (A, B), wrong, "end", A) for wrong in NO_CONDITIONS]
    found += [("change", (A, B), YES, wrong, A) for wrong in NO_COLUMNS]
    found += [("change", (A, B), YES, "end", wrong) for wrong in NO_VALUES + NO_OWN]
    found += [("move", wrong, 1) for wrong in NO_VALUES + OWN + NO_OWN]
    found += [("move", A, wrong) for wrong in (None, True, False, "1", "", (1,), [1], A, 10 ** 30 + 1, -10 ** 30 - 1)]
    found += [("if", wrong, (), ()) for wrong in NO_CONDITIONS + OWN_CONDITIONS]
    found += [("if", YES, wrong, ()) for wrong in (None, True, 0, "", "ab")]
    found += [("if", YES, [("delete", "r")], wrong) for wrong in (None, True, 0, "", "ab")]
    found += [("fail", wrong) for wrong in NO_NAMES]
    found += [("return", wrong) for wrong in (None, 0, "", "ab", True, A, (A, B, A, B, A), [A] * 5)]
    found += [("return", (wrong,)) for wrong in NO_VALUES + OWN + NO_OWN]
    for right in RIGHT:
        found += [right[:-1], (*right, right[-1]), list(right), (right[0].upper(), *right[1:]),
                  ([right[0]], *right[1:])]
    return found + list(WRONG)


def path_of(*given):
    """The path of the InvalidStatement that a procedure raises, or None if it raises none."""
    try:
        Procedure(*given)
    except InvalidStatement as wrong:
        return wrong.path
    return None


def told(statement):
    """The statement with tuples in the place of lists."""
    return tuple(told(part) if is_list(part) else part for part in statement)


class TestMaking(unittest.TestCase):

    def test_right_statements(self):
        for statement in RIGHT:
            self.assertTrue(right_statement(statement, ("key", "end"), ("a", "b")))
            procedure = Procedure(["end"], ["a", "b"], [statement])
            self.assertEqual(procedure.statements(), [told(statement)])
        for statements in (list(RIGHT[:12]), RIGHT[12:24], list(RIGHT[21:])):
            procedure = Procedure(("end",), ("a", "b"), statements)
            self.assertEqual(procedure.statements(), [told(statement) for statement in statements])
            self.assertEqual(len(procedure), len(statements))
            self.assertEqual(repr(procedure), f"Procedure({len(statements)} statements)")

    def test_columns_and_arguments(self):
        for columns in ([], ["end"], ("a", "b", "c")):
            for arguments in ([], ["a"], ("c", "a", "end")):
                procedure = Procedure(columns, arguments, [])
                self.assertEqual(procedure.columns, ("key", *columns))
                self.assertEqual(procedure.arguments, tuple(arguments))
                self.assertIsInstance(procedure.columns, tuple)
                self.assertIsInstance(procedure.arguments, tuple)
                self.assertEqual(procedure.statements(), [])
                self.assertEqual((len(procedure), repr(procedure)), (0, "Procedure(0 statements)"))
        self.assertEqual(Procedure(columns=[], arguments=["a"], statements=()), Procedure([], ("a",), []))

    def test_insert_has_a_value_for_each_column(self):
        for many in range(4):
            columns = ["a", "b", "c"][:many]
            for size in range(6):
                wrong = path_of(columns, [], [("insert", "r", (ONE,) * size)])
                self.assertEqual(wrong, None if size == many + 1 else (0,))

    def test_errors_in_their_order(self):
        for columns in WRONG_COLUMNS:
            for arguments, statements in ((["a"], []), (None, [None]), (["a", "a"], None), (["a"], [1])):
                with self.assertRaises(InvalidColumns):
                    Procedure(columns, arguments, statements)
        for arguments in WRONG_ARGUMENTS:
            for statements in ([], None, [None]):
                with self.assertRaises(InvalidArguments) as caught:
                    Procedure(["end"], arguments, statements)
                self.assertEqual(caught.exception.code, "InvalidArguments")
                self.assertIsInstance(caught.exception, TableError)
        for statements in (None, True, False, 0, 7, "", "ab"):
            self.assertEqual(path_of(["end"], ["a"], statements), ())

    def test_wrong_statements_at_any_place(self):
        good = ("delete", "r")
        for wrong in wrong_statements():
            self.assertFalse(right_statement(wrong, ("key", "end"), ("a", "b")), wrong)
            for statements, path in (
                ([wrong, None], (0,)), ([good, good, wrong, wrong], (2,)),
                ([good, ("if", YES, (good, wrong), (wrong,)), wrong], (1, 2, 1)),
                ([("if", YES, [good], (good, ("if", YES, (), [wrong]))), wrong], (0, 3, 1, 3, 0)),
            ):
                self.assertEqual(path_of(["end"], ["a", "b"], statements), path, wrong)

    def test_error_has_its_code(self):
        with self.assertRaises(InvalidStatement) as caught:
            Procedure([], ["a"], [("delete", "r"), ("if", YES, [], [("fail", "A")])])
        self.assertEqual((caught.exception.code, caught.exception.path), ("InvalidStatement", (1, 3, 0)))
        self.assertIsInstance(caught.exception, TableError)

    def test_names_of_columns_and_arguments(self):
        self.assertEqual(path_of(["price"], [], [("set", "r", "price", ("field", "r", "price"))]), None)
        self.assertEqual(path_of([], [], [("set", "r", "price", ONE)]), (0,))
        self.assertEqual(path_of([], ["a"], [("return", [A])]), None)
        self.assertEqual(path_of([], ["b"], [("return", [A])]), (0,))
        self.assertEqual(path_of([], ["b"], [("clear", (None, A), YES)]), (0,))
        self.assertEqual(path_of([], ["b"], [("clear", (B, None), ("below", ("own", "key"), A))]), (0,))
        # A found row may have the name of an argument.
        self.assertEqual(path_of([], ["a"], [("insert", "a", [A]), ("return", [("field", "a", "key")])]), None)

    def test_too_many(self):
        good = ("delete", "r")
        full = ("if", YES, (good,) * 7, (good,) * 3)
        self.assertEqual(path_of([], [], [good] * 12), None)
        for wrong in (good, None, ("if", YES, [None], [])):
            self.assertEqual(path_of([], [], [good] * 12 + [wrong, None]), (12,))
        self.assertEqual(path_of([], [], [good] * 11 + [("fail", "A"), good]), (11,))
        self.assertEqual(path_of([], [], [full, good, full, good]), None)
        self.assertEqual(path_of([], [], [full, good, full, good, good]), (4,))
        self.assertEqual(path_of([], [], [full, full, good, ("if", YES, [], [good, good])]), (3, 3, 0))
        self.assertEqual(path_of([], [], [full, full, ("if", YES, [], [good, good])]), (2, 3, 1))
        self.assertEqual(path_of([], [], [("if", YES, [good] * 30, [])]), (0, 2, 23))
        self.assertEqual(path_of([], [], [("if", YES, [good] * 12, [good] * 12)]), (0, 3, 11))
        self.assertEqual(path_of([], [], [("if", YES, [good] * 12, [good] * 11)]), None)
        self.assertEqual(path_of([], [], [good] * 11 + [("if", YES, [good] * 12, [])]), None)
        self.assertEqual(path_of([], [], [good] * 11 + [("if", YES, [good] * 12, [good])]), (11, 3, 0))
        self.assertEqual(path_of([], [], [good] * 400), (12,))

    def test_too_deep(self):
        third = ("if", YES, (), ())
        fourth = ("if", YES, (), [("delete", "r")])
        for inner, path in ((third, None), (fourth, (0, 2, 0, 3, 0, 3, 0)),
                            (("if", YES, [third], [None]), (0, 2, 0, 3, 0, 2, 0)),
                            (("if", YES, None, []), (0, 2, 0, 3, 0))):
            statements = [("if", YES, [("if", YES, [], [inner])], [])]
            self.assertEqual(path_of([], [], statements), path)

    def test_random_statements_with_a_wrong_one(self):
        wrong = wrong_statements()
        seen = set()
        for seed in range(600):
            dice = random.Random(seed)
            maker = Maker(dice)
            statements = list(maker.statements(dice.randint(0, 13)))
            for _ in range(dice.randint(0, 2)):
                statements = self.planted(dice, statements, dice.choice(wrong))
            path = first_wrong_statement(statements, maker.columns, maker.arguments)
            self.assertEqual(path_of(["end"], ["a", "b"], statements), path)
            seen.add(path and len(path))
        self.assertLessEqual({None, 1, 3, 5}, seen)

    def planted(self, dice, statements, wrong):
        """The statements with a wrong one in the place of any of them, at any depth."""
        places = [path for path, _, _ in in_order(statements)]
        path = dice.choice(places) if places else None
        return self.exchanged(statements, path, wrong) if path else [wrong]

    def exchanged(self, statements, path, wrong):
        found = list(statements)
        if len(path) == 1:
            found[path[0]] = wrong
        else:
            inner = list(found[path[0]])
            inner[path[1]] = self.exchanged(inner[path[1]], path[2:], wrong)
            found[path[0]] = tuple(inner)
        return found

    def test_lists_are_copied_and_new(self):
        columns, arguments, values, inner = ["end"], ["a"], [A, A], [("delete", "r")]
        statements = [("insert", "r", values), ("if", YES, inner, inner), ("return", values)]
        given = (columns, arguments, values, inner, statements)
        procedure = Procedure(columns, arguments, statements)
        self.assertEqual(given, (["end"], ["a"], [A, A], [("delete", "r")],
                                 [("insert", "r", values), ("if", YES, inner, inner), ("return", values)]))
        for each in given:
            each.append("x")
        procedure.statements().append(None)
        procedure.found_names().append("q")
        self.assertEqual(procedure.columns, ("key", "end"))
        self.assertEqual(procedure.arguments, ("a",))
        expected = [("insert", "r", (A, A)), ("if", YES, (("delete", "r"),), (("delete", "r"),)), ("return", (A, A))]
        self.assertEqual(procedure.statements(), expected)
        self.assertEqual(procedure.found_names(), ["r"])
        for statement in procedure.statements():
            self.assertIsInstance(statement[-1], tuple)


class TestParts(unittest.TestCase):

    def test_equal(self):
        one = Procedure(["end"], ["a", "b"], [("insert", "r", [A, B]), ("if", YES, [], (("return", []),))])
        same = Procedure(("end",), ("a", "b"), (("insert", "r", (A, B)), ("if", YES, (), [("return", ())])))
        self.assertTrue(one == same)
        self.assertFalse(one != same)
        statements = one.statements()
        for other in (
            Procedure(["ends"], ["a", "b"], statements), Procedure(["end"], ["b", "a"], statements),
            Procedure(["end"], ["a", "b", "c"], statements), Procedure(["end"], ["a", "b"], statements[::-1]),
            Procedure(["end"], ["a", "b"], statements[:1]), Procedure(["end"], ["a", "b"], []),
            Procedure(["end"], ["a", "b"], [("insert", "s", [A, B]), statements[1]]),
            Procedure(["end"], ["a", "b"], [("insert", "r", [B, A]), statements[1]]),
            Procedure(["end"], ["a", "b"], [statements[0], ("if", YES, [("return", [])], [])]),
            None, 2, "", statements, tuple(statements),
        ):
            self.assertFalse(one == other)
            self.assertTrue(one != other)
        self.assertFalse(Procedure(["a", "b"], [], []) == Procedure(["b", "a"], [], []))
        self.assertFalse(Procedure([], ["a"], []) == Procedure([], [], []))
        self.assertFalse(Procedure([], [], []) == Procedure(["a"], [], []))

    def test_first_and_without(self):
        statements = [told(statement) for statement in RIGHT[:5]]
        procedure = Procedure(["end"], ["a", "b"], statements)
        for n in range(6):
            self.assertEqual(procedure.first(n), Procedure(["end"], ["a", "b"], statements[:n]))
            self.assertEqual(len(procedure.first(n=n)), n)
        for n in range(5):
            expected = Procedure(["end"], ["a", "b"], statements[:n] + statements[n + 1:])
            self.assertEqual(procedure.without(n), expected)
            self.assertEqual(procedure.without(n=n), expected)
        self.assertEqual(procedure.statements(), statements)
        for call, least_wrong in ((procedure.first, 6), (procedure.without, 5)):
            for n in (-1, least_wrong, least_wrong + 1, 10 ** 30, -10 ** 30, True, False, None, "", "1", (), (1,), [1]):
                with self.assertRaises(InvalidCount) as caught:
                    call(n)
                self.assertIs(caught.exception.given, n)
                self.assertEqual(caught.exception.code, "InvalidCount")
        empty = Procedure([], [], [])
        self.assertEqual(empty.first(0), empty)
        self.assertRaises(InvalidCount, empty.without, 0)

    def test_found_names(self):
        for statement, names in (
            (("find", "r", "first", (("field", "s", "end"), R_END),
              ("and", ("found", "q"), ("same", ("field", "z", "key"), A))),
             ["q", "r", "s", "z"]),
            (("find", "r", "first", (None, ("plus", ("field", "t", "key"), 1)), YES), ["r", "t"]),
            (("step", "s", "next", "r"), ["r", "s"]), (("insert", "i", (A, ("plus", R_END, 1))), ["i", "r"]),
            (("delete", "d"), ["d"]), (("set", "y", "end", ("field", "x", "key")), ["x", "y"]),
            (("clear", (("field", "c", "key"), None), ("found", "b")), ["b", "c"]),
            (("change", (None, ("field", "e", "key")), ("found", "f"), "end", ("plus", ("field", "g", "end"), 1)),
             ["e", "f", "g"]),
            (("move", ("field", "m", "key"), 1), ["m"]), (("fail", "busy"), []), (("return", [A, R_END]), ["r"]),
            (("if", ("not", ("or", ("found", "n"), ("below", A, ("field", "o", "end")))), [("delete", "p")],
              [("if", YES, [], [("delete", "h"), ("step", "k", "prior", "k")])]), ["h", "k", "n", "o", "p"]),
        ):
            self.assertEqual(Procedure(["end"], ["a", "b"], [statement]).found_names(), names)
        several = Procedure([], [], [("delete", "z"), ("delete", "a"), ("delete", "z"), ("delete", "m")])
        self.assertEqual(several.found_names(), ["a", "m", "z"])


CHANGING = ("insert", "delete", "set", "clear", "change", "move")
FAILING = ("fail", "insert", "move", "delete", "set", "step")
LOOKS = {"find": 1, "step": 1, "insert": 1, "move": 2}


def may_fail(statement):
    """Whether a statement that stands in a way may fail by itself."""
    own = statement[:2] if statement[0] == "if" else statement
    return statement[0] in FAILING or "'field'" in repr(own)


class TestLooksAndLate(unittest.TestCase):

    def late(self, statements):
        """The index of the late statement, by going all ways."""
        for at in range(len(statements)):
            ahead = ways_of(statements[:at])
            for way in ways_of(statements[at:at + 1]):
                for before in ahead:
                    changed = any(statement[0] in CHANGING for statement in before)
                    for statement in way:
                        if changed and may_fail(statement):
                            return at
                        changed = changed or statement[0] in CHANGING
        return None

    def test_looks_by_hand(self):
        find, step, insert, move = ("find", "r", "first", (None, None), YES), ("step", "r", "next", "r"), \
            ("insert", "r", [ONE]), ("move", ONE, 1)
        for statements, looks in (
            ([], 0), ([find], 1), ([step], 1), ([insert], 1), ([move], 2), ([("delete", "r")], 0),
            ([("clear", (None, None), YES)], 0), ([("fail", "x")], 0), ([("return", [])], 0),
            ([find, step, insert, move, move], 7), ([("if", YES, [], [])], 0), ([("if", YES, [find], [move, move])], 4),
            ([("if", YES, [move, find], [find])], 3), ([find, ("if", YES, [("if", YES, [find], [move])], [insert]),
                                                        find], 4),
        ):
            self.assertEqual(Procedure([], [], statements).looks, looks)
        self.assertEqual(Procedure(["a"], [], [("set", "r", "a", ONE), ("change", (None, None), YES, "a", ONE)]).looks,
                         0)

    def test_late_by_hand(self):
        clear, fail, field = ("clear", (None, None), YES), ("fail", "x"), ("return", [("field", "r", "key")])
        quiet, find = ("if", YES, [], []), ("find", "r", "first", (None, None), YES)
        asking = ("if", ("same", ("field", "r", "key"), ONE), [], [])
        for statements, late in (
            ([], None), ([clear], None), ([fail, clear], None), ([clear, fail], 1),
            ([clear, clear, find, quiet, fail], 4),
            ([clear, find], None), ([clear, field], 1), ([clear, ("return", [ONE])], None), ([clear, asking], 1),
            ([asking, clear], None), ([clear, ("find", "r", "first", (("field", "r", "key"), None), YES)], 1),
            ([clear, ("clear", (None, None), ("same", ("plus", ("field", "r", "key"), 1), ONE))], 1),
            ([("if", YES, [clear], [fail])], None), ([("if", YES, [clear, fail], [])], 0),
            ([("if", YES, [], [clear, fail])], 0),
            ([("if", YES, [clear], []), fail], 1), ([("if", YES, [], [("if", YES, [clear], [])]), quiet, fail], 2),
            ([clear, ("if", YES, [], [("if", YES, [], [fail])])], 1), ([clear, ("if", YES, [clear], [find])], None),
            ([("if", YES, [("if", YES, [], [clear]), fail], [])], 0),
            ([fail, ("if", YES, [fail, clear], [clear])], None),
            ([clear, ("step", "r", "next", "r")], 1), ([clear, ("delete", "r")], 1),
            ([clear, ("insert", "r", [ONE])], 1),
            ([clear, ("move", ONE, 1)], 1), ([("move", ONE, 1), ("move", ONE, 1)], 1),
            ([("insert", "r", [ONE]), clear], None),
            ([("delete", "r"), fail], 1), ([("move", ONE, 1), fail], 1), ([("insert", "r", [ONE]), fail], 1),
            ([fail, fail], None),
            ([("step", "r", "next", "r"), fail], None), ([("return", []), fail], None), ([find, fail], None),
        ):
            procedure = Procedure([], [], statements)
            self.assertEqual(procedure.late(), late, statements)
            self.assertIs(procedure.fails_early, late is None)
            self.assertEqual(self.late(statements), late)
        for change in (("set", "r", "end", ONE), ("change", (None, None), YES, "end", ONE)):
            self.assertEqual(Procedure(["end"], [], [change, fail]).late(), 1)
        self.assertEqual(Procedure(["end"], [], [clear, ("set", "r", "end", ONE)]).late(), 1)
        self.assertEqual(Procedure(["end"], [], [clear, ("change", (None, None), YES, "end", ONE)]).late(), None)
        self.assertEqual(Procedure(["end"], [], [clear, ("change", (None, None), YES, "end", R_END)]).late(), 1)

    def test_random_procedures(self):
        seen = set()
        for seed in range(1500):
            dice = random.Random(seed)
            statements = Maker(dice).body(dice.randint(0, 4), fields=dice.random() < 0.4)
            procedure = Procedure(["end"], ["a", "b"], statements)
            ways = ways_of(statements)
            self.assertEqual(procedure.looks, max(sum(LOOKS.get(each[0], 0) for each in way) for way in ways))
            self.assertEqual(procedure.late(), self.late(statements))
            self.assertIs(procedure.fails_early, self.late(statements) is None)
            rows = [name for _, _, each in in_order(statements) for name in self.names(each)]
            self.assertEqual(procedure.found_names(), sorted(set(rows)))
            seen.add(procedure.late())
        self.assertLessEqual({None, 0, 1, 2, 3}, seen)

    def names(self, statement):
        """The names of found rows in a statement by itself."""
        own = statement[:2] if statement[0] == "if" else statement
        found = [own[1]] if own[0] in ("find", "step", "insert", "delete", "set") else []
        found += [own[3]] if own[0] == "step" else []
        return found + self.words(own)

    def words(self, thing):
        if not is_list(thing):
            return []
        if len(thing) >= 2 and thing[0] in ("field", "found"):
            return [thing[1]]
        return [name for part in thing for name in self.words(part)]


class TestHelpers(unittest.TestCase):

    def test_what_the_tests_rest_on(self):
        self.assertEqual(all_values(("and", ("same", A, B), ("not", ("below", ONE, R_END)))), [A, B, ONE, R_END])
        self.assertTrue(right_name("r"))
        self.assertEqual(len(ways_of([("if", YES, [("if", YES, [], [])], []), ("if", YES, [], [])])), 6)


if __name__ == "__main__":
    unittest.main()
