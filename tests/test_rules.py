"""Tests of lookedrows.rules."""

import itertools
import random
import unittest

from helpers import RuleMaker, WRONG, all_broken, shows_no_carrying
from lookedrows.errors import ColumnsDiffer, InvalidColumns, InvalidCount, InvalidRule, NotCarried, TableError
from lookedrows.procedures import Procedure
from lookedrows.rules import Rules
from lookedrows.tables import Table
from test_tables import WRONG_COLUMNS

KEY, END, ONE = ("own", "key"), ("own", "end"), ("number", 1)
NEXT_KEY, NEXT_END = ("next", "key"), ("next", "end")
YES = ("true",)
GREAT = 10 ** 30
# Row rules and next rules over the columns key and end; the next rules carry with the row rules.
ROW_RULES = (("below", KEY, END), ("atmost", ("number", -5), END), ("not", ("same", KEY, ("plus", END, 3))), YES)
NEXT_RULES = (("atmost", END, NEXT_KEY), ("below", KEY, NEXT_KEY), ("or", YES, ("same", END, NEXT_END)),
              ("atmost", END, NEXT_END))
# This next rule carries only if all ends are at least 1.
SLOW = ("or", ("below", END, NEXT_END), ("same", END, ONE))
WRONG_VALUES = (
    ("name", "a"), ("field", "r", "end"), ("own", "price"), ("own", "r"), ("plus", ("name", "a"), 1),
    ("plus", ("own", "a"), 1),
    ("plus", ("field", "r", "key"), 1), ("number", True), ("number", GREAT + 1), None, 1, "end", ["own", "end"], (),
    ("own",),
)
WRONG_ROW_RULES = tuple(("below", KEY, wrong) for wrong in WRONG_VALUES) + tuple(
    ("not", ("and", YES, ("same", wrong, KEY))) for wrong in WRONG_VALUES) + (
    ("found", "r"), ("not", ("found", "r")), ("or", YES, ("and", ("found", "end"), YES)), None, True, False, 0, 1, "",
    "true", (), [],
    ["true"], [("true",)], ("maybe",), ("and", YES), ("not", ("not", ("not", ("not", ("not", ("not", YES)))))),
    (YES, YES))
NEXT_VALUES = (NEXT_KEY, NEXT_END, ("plus", NEXT_END, 1))
WRONG_NEXT_VALUES = (("next", "price"), ("plus", ("next", "a"), 1), ("next",), ["next", "end"])


def index_of(*given, **named):
    """The index of the InvalidRule that Rules raise, or None if they raise none."""
    try:
        Rules(*given, **named)
    except InvalidRule as wrong:
        return wrong.index
    return None


class TestColumns(unittest.TestCase):

    def test_columns_are_checked_first_by_all(self):
        for columns in WRONG_COLUMNS:
            for make in (lambda: Table(columns, None), lambda: Table(columns, [None]),
                         lambda: Procedure(columns, None, None),
                         lambda: Procedure(columns, ["a"], [None]), lambda: Rules(columns),
                         lambda: Rules(columns, rows=None),
                         lambda: Rules(columns, rows=[None], nexts=5), lambda: Rules(columns, nexts=[YES] * 5)):
                with self.assertRaises(InvalidColumns) as caught:
                    make()
                self.assertEqual(caught.exception.code, "InvalidColumns")
            if type(columns) in (list, tuple):
                self.assertRaises(InvalidColumns, Rules.bare, *columns)
                self.assertRaises(InvalidColumns, Table.empty, *columns)

    def test_right_columns(self):
        for columns in ([], ["a"], ("end", "a"), ["c", "b", "a"], ("sixsix",)):
            for made in (Rules(columns), Rules.bare(*columns), Rules(columns=columns, rows=[], nexts=())):
                self.assertEqual(made.columns, ("key", *columns))
                self.assertIsInstance(made.columns, tuple)
                self.assertEqual((made.rows(), made.nexts(), len(made), repr(made)), ([], [], 0, "Rules(0 rules)"))
            self.assertTrue(Rules.bare(*columns) == Rules(columns))


class TestMaking(unittest.TestCase):

    def test_rules(self):
        for many, more in itertools.product(range(5), repeat=2):
            rows, nexts = list(ROW_RULES[:many]), list(NEXT_RULES[:more]) if many or more < 2 else list(NEXT_RULES[1:3])
            for made in (Rules(["end"], rows=rows, nexts=nexts), Rules(("end",), nexts=tuple(nexts), rows=tuple(rows))):
                self.assertEqual(made.rows(), rows)
                self.assertEqual(made.nexts(), nexts)
                self.assertEqual(len(made), len(rows) + len(nexts))
                self.assertEqual(repr(made), f"Rules({len(rows) + len(nexts)} rules)")
        self.assertEqual(repr(Rules([], rows=[YES])), "Rules(1 rules)")
        self.assertEqual(len(Rules([], rows=[YES] * 4, nexts=[YES] * 4)), 8)
        with self.assertRaises(TypeError):
            Rules([], [YES])

    def test_wrong_row_rules_at_any_place(self):
        wrong_ones = WRONG_ROW_RULES + tuple(("not", ("same", value, ONE)) for value in NEXT_VALUES + WRONG_NEXT_VALUES)
        for wrong in (*wrong_ones, *[thing for thing in WRONG if thing != ("true",)]):
            for ahead in range(4):
                rows = [*ROW_RULES[:ahead], wrong, None]
                self.assertEqual(index_of(["end"], rows=rows), ahead, wrong)
                self.assertEqual(index_of(["end"], rows=rows, nexts=None), ahead)

    def test_wrong_next_rules_at_any_place(self):
        wrong_ones = WRONG_ROW_RULES + tuple(("or", ("same", value, ONE), YES) for value in WRONG_NEXT_VALUES)
        for wrong in (*wrong_ones, *[thing for thing in WRONG if thing != ("true",)]):
            for ahead in range(4):
                for many in (0, 1, 4):
                    nexts = [*NEXT_RULES[:ahead], wrong, None]
                    self.assertEqual(index_of(["end"], rows=ROW_RULES[:many], nexts=nexts), many + ahead, wrong)
        for value in NEXT_VALUES:
            self.assertEqual(index_of(["end"], nexts=[("or", YES, ("same", value, END))]), None)

    def test_the_fifth_of_its_sort(self):
        self.assertEqual(index_of(["end"], rows=[YES] * 5), 4)
        self.assertEqual(index_of(["end"], rows=[YES] * 4 + [None]), 4)
        self.assertEqual(index_of(["end"], rows=[YES] * 9, nexts=[None]), 4)
        self.assertEqual(index_of(["end"], nexts=[YES] * 5), 4)
        for many in range(5):
            self.assertEqual(index_of(["end"], rows=[YES] * many, nexts=[YES] * 6), many + 4)
            self.assertEqual(index_of(["end"], rows=[YES] * many, nexts=[YES] * 4), None)
        self.assertEqual(index_of([], rows=[YES] * 400), 4)

    def test_no_list(self):
        for wrong in (None, True, False, 0, 5, "", "true", "abc"):
            self.assertEqual(index_of(["end"], rows=wrong), 0)
            self.assertEqual(index_of(["end"], rows=wrong, nexts=[None]), 0)
            for many in range(5):
                self.assertEqual(index_of(["end"], rows=ROW_RULES[:many], nexts=wrong), many)
        # A single rule is no list of rules.
        self.assertEqual(index_of(["end"], rows=YES), 0)
        self.assertEqual(index_of(["end"], rows=[YES], nexts=("below", KEY, END)), 1)
        with self.assertRaises(InvalidRule) as caught:
            Rules(["end"], rows=[YES, None])
        self.assertEqual((caught.exception.code, caught.exception.index), ("InvalidRule", 1))
        self.assertIsInstance(caught.exception, TableError)

    def test_wrong_rules_are_ahead_of_carrying(self):
        bad = ("not", ("same", END, NEXT_END))
        self.assertRaises(NotCarried, Rules, ["end"], nexts=[bad])
        self.assertEqual(index_of(["end"], nexts=[bad, None]), 1)

    def test_lists_are_copied_and_new(self):
        columns, rows, nexts = ["end"], [ROW_RULES[0]], [NEXT_RULES[0]]
        made = Rules(columns, rows=rows, nexts=nexts)
        self.assertEqual((columns, rows, nexts), (["end"], [ROW_RULES[0]], [NEXT_RULES[0]]))
        for each in (columns, rows, nexts, made.rows(), made.nexts()):
            each.append(None)
        self.assertEqual(made.columns, ("key", "end"))
        self.assertEqual((made.rows(), made.nexts(), len(made)), ([ROW_RULES[0]], [NEXT_RULES[0]], 2))

    def test_equal(self):
        one = Rules(["end"], rows=ROW_RULES[:2], nexts=NEXT_RULES[:2])
        self.assertTrue(one == Rules(("end",), rows=list(ROW_RULES[:2]), nexts=list(NEXT_RULES[:2])))
        self.assertFalse(one != Rules(("end",), rows=list(ROW_RULES[:2]), nexts=list(NEXT_RULES[:2])))
        for other in (
            Rules(["end"], rows=ROW_RULES[1::-1], nexts=NEXT_RULES[:2]),
            Rules(["end"], rows=ROW_RULES[:2], nexts=NEXT_RULES[1::-1]),
            Rules(["end"], rows=ROW_RULES[:2]), Rules(["end"], rows=ROW_RULES[:1], nexts=NEXT_RULES[:2]),
            Rules(["end"], rows=ROW_RULES[:3], nexts=NEXT_RULES[:2]),
            Rules(["end", "a"], rows=ROW_RULES[:2], nexts=NEXT_RULES[:2]),
            Rules(["a", "end"], rows=ROW_RULES[:2], nexts=NEXT_RULES[:2]), Rules(["end"]), None, 4, "",
            list(ROW_RULES[:2]),
        ):
            self.assertFalse(one == other)
            self.assertTrue(one != other)
        self.assertFalse(Rules(["a", "b"]) == Rules(["b", "a"]))
        self.assertFalse(Rules(["a"]) == Rules(["b"]))
        self.assertFalse(Rules([], rows=[YES]) == Rules([], nexts=[YES]))


class TestKeeping(unittest.TestCase):

    def test_by_hand(self):
        rules = Rules(["end"], rows=[ROW_RULES[0]], nexts=[NEXT_RULES[0]])
        for rows, broken in (
            ([], None), ([(1, 2)], None), ([(1, 1)], (0, 0)), ([(1, 3), (3, 4)], None), ([(1, 3), (2, 4)], (1, 0)),
            ([(1, 2), (2, 2), (3, 1)], (0, 1)), ([(1, 2), (2, 5), (3, 4), (3 + 1, 5)], (1, 1)),
            ([(1, 9), (2, 2)], (0, 1)),
            ([(GREAT ** 2, GREAT ** 2 + 1)], None), ([(GREAT ** 2, GREAT ** 2)], (0, 0)),
        ):
            table = Table(["end"], rows)
            self.assertEqual(rules.broken(table), broken)
            self.assertIs(rules.keeps(table), broken is None)
            self.assertEqual(table.rows(), rows)

    def test_columns_differ(self):
        rules = Rules(["end"])
        for columns in ([], ["ends"], ["end", "a"], ["a", "end"]):
            for rows in ([], [tuple(range(len(columns) + 1))]):
                with self.assertRaises(ColumnsDiffer) as caught:
                    rules.broken(Table(columns, rows))
                self.assertEqual(caught.exception.code, "ColumnsDiffer")
                self.assertIs(rules.keeps(Table(columns, rows)), False)
        self.assertIs(Rules(["a", "b"]).keeps(Table(["b", "a"])), False)

    def test_random_tables(self):
        seen = {}
        for seed in range(1500):
            dice = random.Random(seed)
            maker = RuleMaker(dice, columns=("end", "x", "y")[:dice.randint(0, 3)])
            rows, nexts = maker.rules(dice.randint(0, 3), dice.randint(0, 2), dice.randint(1, 3))
            try:
                rules = Rules(maker.columns[1:], rows=rows, nexts=nexts)
            except NotCarried:
                continue
            for _ in range(6):
                told = maker.rows(dice.randint(0, 4), -1, 3)
                table = Table(maker.columns[1:], told)
                broken = all_broken(maker.columns, rows, nexts, told)
                first = broken[0] if broken else None
                self.assertEqual(rules.broken(table), first, (rows, nexts, told))
                self.assertIs(rules.keeps(table), first is None)
                sort = None if first is None else first[0] >= len(rows)
                seen[sort] = seen.get(sort, 0) + 1
                if first is None:
                    self.check_removing(rules, table, dice)
        for sort in (None, True, False):
            self.assertGreater(seen[sort], 300, seen)

    def check_removing(self, rules, table, dice):
        """A table that keeps rules still keeps them when rows are removed."""
        keys = table.all_keys()
        for many in range(1, len(keys) + 1):
            self.assertTrue(rules.keeps(table - dice.sample(keys, many)))

    def test_removing_from_good_tables(self):
        rules = Rules(["end"], rows=ROW_RULES, nexts=NEXT_RULES)
        table = Table(["end"], [(0, 1), (1, 3), (3, 5), (7, 8), (9, 20)])
        self.assertTrue(rules.keeps(table))
        for many in range(6):
            for keys in itertools.combinations(table.all_keys(), many):
                self.assertTrue(rules.keeps(table - keys))


class TestCarrying(unittest.TestCase):

    def check(self, columns, rows, nexts):
        """Whether rules are let in; the witness, if they are refused, or else all three rows of a grid are checked."""
        all_columns = ("key", *columns)
        try:
            Rules(columns, rows=rows, nexts=nexts)
        except NotCarried as refused:
            witness = refused.witness
            self.assertIs(type(witness), list)
            self.assertEqual([(type(row), len(row)) for row in witness], [(tuple, len(all_columns))] * 3)
            self.assertTrue(all(type(cell) is int for row in witness for cell in row))
            self.assertTrue(shows_no_carrying(all_columns, rows, nexts, witness), (rows, nexts, witness))
            self.assertEqual(refused.code, "NotCarried")
            return False
        high = 4 if not columns else 2
        cells = [tuple(cells) for cells in itertools.product(range(-1, high), repeat=len(columns))]
        for keys in itertools.combinations(range(-1, 3), 3):
            for three in itertools.product(cells, repeat=3):
                told = [(key, *more) for key, more in zip(keys, three)]
                self.assertFalse(shows_no_carrying(all_columns, rows, nexts, told), (rows, nexts, told))
        return True

    def test_by_hand(self):
        below = ("below", KEY, END)
        for rows, nexts, carried in (
            ([], [("atmost", END, NEXT_END)], True), ([], [("same", END, NEXT_END)], True),
            ([], [("below", NEXT_END, END)], True),
            ([], [("not", ("same", END, NEXT_END))], False), ([], [("below", END, ("plus", NEXT_END, 1))], True),
            ([], [("below", END, ("plus", NEXT_END, 2))], False), ([], [("atmost", ("plus", END, 5), NEXT_END)], True),
            ([], [("atmost", NEXT_KEY, ("plus", KEY, 3))], False), ([], [("atmost", ("plus", KEY, 2), NEXT_KEY)], True),
            ([], [("below", NEXT_KEY, KEY)], True), ([], [("below", KEY, NEXT_KEY)], True),
            ([], [YES, YES, YES, YES], True),
            ([below], [("atmost", END, NEXT_KEY)], True), ([], [("atmost", END, NEXT_KEY)], True), ([], [SLOW], False),
            ([("atmost", ONE, END)], [SLOW], True), ([("atmost", ("number", 0), END)], [SLOW], False),
            ([("same", KEY, END)], [("atmost", NEXT_END, KEY)], True),
            ([("not", YES)], [("not", ("same", END, NEXT_END))], True),
            ([], [("or", ("below", END, NEXT_END), ("same", END, NEXT_END))], True),
            ([], [("or", ("below", END, NEXT_END), ("same", NEXT_END, ONE))], False),
            ([], [("or", ("below", END, NEXT_END), ("same", END, ONE))], False),
            ([], [("and", ("below", END, NEXT_END), ("not", ("same", END, ONE)))], True),
            ([], [("atmost", END, NEXT_END), ("atmost", NEXT_END, ("plus", END, 4))], False),
            ([], [("atmost", END, NEXT_END), ("atmost", NEXT_END, END)], True),
            ([("atmost", ONE, END), ("atmost", END, ("number", 2))], [("not", ("same", END, NEXT_END))], False),
            ([("same", END, ONE)], [("not", ("same", END, NEXT_END))], True),
            ([], [("atmost", END, ("number", 3)), ("atmost", ("number", 4), NEXT_END)], True),
            ([], [("or", ("atmost", END, ("number", 3)), ("atmost", ("number", 4), NEXT_END))], True),
            ([], [("atmost", ("plus", END, GREAT), ("plus", NEXT_END, GREAT - 1))], True),
            ([], [("atmost", ("plus", END, GREAT), ("plus", NEXT_END, -GREAT))], True),
            ([], [("atmost", ("plus", END, -GREAT), NEXT_END)], False),
        ):
            self.assertIs(self.check(["end"], rows, nexts), carried, (rows, nexts))

    def test_without_further_columns(self):
        for nexts, carried in (([("below", KEY, NEXT_KEY)], True), ([("atmost", NEXT_KEY, ("plus", KEY, 1))], False),
                               ([("not", ("same", NEXT_KEY, ("plus", KEY, 2)))], False),
                               ([("not", ("same", NEXT_KEY, KEY))], True),
                               ([("atmost", NEXT_KEY, ONE)], True), ([("atmost", ONE, KEY)], True),
                               ([("below", ONE, ("number", 0))], True)):
            self.assertIs(self.check([], [], nexts), carried, nexts)

    def test_lexicographic_order(self):
        a, b, next_a, next_b = ("own", "a"), ("own", "b"), ("next", "a"), ("next", "b")
        order = ("or", ("below", a, next_a), ("and", ("same", a, next_a), ("atmost", b, next_b)))
        self.assertTrue(self.check(["a", "b"], [], [order]))
        self.assertFalse(self.check(["a", "b"], [], [("or", ("below", a, next_a), ("atmost", b, next_b))]))

    def test_random_rules(self):
        seen = {True: 0, False: 0}
        for seed in range(1200):
            dice = random.Random(seed)
            columns = (("end",), (), ("end", "x"))[0 if seed % 5 else dice.randint(1, 2)]
            maker = RuleMaker(dice, columns=columns)
            rows, nexts = maker.rules(dice.randint(0, 2), dice.randint(1, 2), dice.randint(1, 2))
            seen[self.check(columns, rows, nexts)] += 1
        self.assertGreater(min(seen.values()), 40, seen)


class TestSome(unittest.TestCase):

    def setUp(self):
        self.rows = [ROW_RULES[0], ("atmost", ONE, END), ROW_RULES[2]]
        self.nexts = [SLOW, NEXT_RULES[0]]
        self.rules = Rules(["end"], rows=self.rows, nexts=self.nexts)

    def test_indexes_in_any_order_and_repeated(self):
        whole = [*self.rows, *self.nexts]
        for many in range(6):
            for chosen in itertools.permutations(range(5), many):
                if 3 in chosen and 1 not in chosen:
                    continue
                rows = [whole[index] for index in sorted(chosen) if index < 3]
                nexts = [whole[index] for index in sorted(chosen) if index >= 3]
                for indexes in (chosen, chosen + chosen[:2]):
                    made = self.rules.some(*indexes)
                    self.assertIsInstance(made, Rules)
                    self.assertEqual((made.rows(), made.nexts(), made.columns), (rows, nexts, ("key", "end")))
        self.assertEqual(self.rules.some(), Rules(["end"]))
        self.assertEqual(self.rules.some(0, 1, 2, 3, 4), self.rules)
        self.assertEqual(len(self.rules), 5)

    def test_equal_rules_are_told_apart_by_their_indexes(self):
        rules = Rules([], rows=[YES, YES], nexts=[YES])
        self.assertEqual(rules.some(1).rows(), [YES])
        self.assertEqual(rules.some(0, 1).rows(), [YES, YES])
        self.assertEqual((rules.some(2).rows(), rules.some(2).nexts()), ([], [YES]))

    def test_invalid_count(self):
        for wrong in (-1, 5, 6, GREAT, -GREAT, True, False, None, "", "0", (), (0,), [0], [[1]]):
            for indexes in ((wrong,), (0, wrong), (1, 1, wrong, None), (3, wrong)):
                with self.assertRaises(InvalidCount) as caught:
                    self.rules.some(*indexes)
                self.assertIs(caught.exception.given, wrong)
                self.assertEqual(caught.exception.code, "InvalidCount")
        self.assertRaises(InvalidCount, Rules([]).some, 0)

    def test_not_carried_without_a_row_rule(self):
        for indexes in ((3,), (0, 3), (2, 3, 0)):
            with self.assertRaises(NotCarried) as caught:
                self.rules.some(*indexes)
            rows = [self.rows[index] for index in indexes if index < 3]
            self.assertTrue(shows_no_carrying(("key", "end"), rows, [SLOW], caught.exception.witness))
            self.assertIsInstance(caught.exception, TableError)


if __name__ == "__main__":
    unittest.main()
