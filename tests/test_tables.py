"""Tests of lookedrows.tables."""

import itertools
import random
import unittest

from lookedrows.errors import InvalidColumns, InvalidRow, Missing, TableError, UnknownKey
from lookedrows.tables import Table

GREAT = 10 ** 30
WRONG_COLUMNS = (
    None, True, False, 0, 3, "", "end", "abc", ["key"], ["end", "key"], ["end", "end"], ["a", "b", "a"],
    ["a", "b", "c", "d"], ["A"], [""], ["sevenll"], ["a b"], ["own"], ["next"], ["found"], ["and"], ["true"], ["where"],
    [None], [True], [0], [[]], [()], [["a"]], ["a", ("b",)], ("a", "a"), ("key",), [1, 2], ["a", None, "b"], ["a1"],
    ["end\n"],
)
# No rows of a table with one further column.
WRONG_ROWS = (
    None, True, False, 0, "", "ab", (), (1,), (1, 2, 3), [9, 2], [], (1, True), (False, 2), (1, None), (None, 2),
    (1, "2"),
    ("1", 2), (1, (2,)), ((1,), 2), (1, [2]), ((1, 2),), [(1, 2)],
)


class TestMaking(unittest.TestCase):

    def test_columns(self):
        for columns in ([], ["end"], ["end", "price"], ["z", "a", "sixsix"]):
            for given in (columns, tuple(columns)):
                self.assertEqual(Table(given).columns, ("key", *columns))
                self.assertEqual(Table(columns=given, rows=[]).columns, ("key", *columns))
                self.assertIsInstance(Table(given).columns, tuple)

    def test_wrong_columns_are_ahead_of_wrong_rows(self):
        for columns in WRONG_COLUMNS:
            for rows in ([], [(1, 2)], None, [None], [(1,), (1,)]):
                with self.assertRaises(InvalidColumns) as caught:
                    Table(columns, rows)
                self.assertEqual(caught.exception.code, "InvalidColumns")
                self.assertIsInstance(caught.exception, TableError)

    def test_rows_in_any_order(self):
        rows = [(-GREAT, 5), (-3, GREAT), (0, 0), (2, -7), (GREAT + 1, 1)]
        for order in itertools.permutations(rows):
            for given in (list(order), order):
                table = Table(["end"], given)
                self.assertEqual(table.rows(), rows)
                self.assertEqual(table.all_keys(), [-GREAT, -3, 0, 2, GREAT + 1])
                self.assertEqual(len(table), 5)
                self.assertEqual(repr(table), "Table(5 rows)")

    def test_numbers_of_columns(self):
        for many in range(4):
            columns = ["a", "b", "c"][:many]
            rows = [tuple(range(7, 8 + many)), tuple(range(many + 1))]
            self.assertEqual(Table(columns, rows).rows(), rows[::-1])
            for size in (many, many + 2):
                with self.assertRaises(InvalidRow) as caught:
                    Table(columns, [*rows, tuple(range(50, 50 + size))])
                self.assertEqual(caught.exception.index, 2)

    def test_without_rows(self):
        for table in (Table(["end"]), Table(["end"], []), Table(["end"], ()), Table.empty("end")):
            self.assertEqual(table.rows(), [])
            self.assertEqual(table.all_keys(), [])
            self.assertEqual(len(table), 0)
            self.assertEqual(repr(table), "Table(0 rows)")
            self.assertEqual(table.columns, ("key", "end"))

    def test_one_row(self):
        self.assertEqual(repr(Table([], [(4,)])), "Table(1 rows)")
        self.assertEqual(Table([], [(4,)]).rows(), [(4,)])

    def test_empty(self):
        self.assertEqual(Table.empty(), Table([]))
        self.assertEqual(Table.empty("a", "b", "c"), Table(["a", "b", "c"]))
        for columns in WRONG_COLUMNS:
            if type(columns) in (list, tuple):
                self.assertRaises(InvalidColumns, Table.empty, *columns)
        for column in (None, True, 0, "", "key", ["end"], ("end",)):
            self.assertRaises(InvalidColumns, Table.empty, column)

    def test_wrong_rows_at_any_place(self):
        good = [(1, 1), (0, 5), (-4, 4)]
        for wrong in WRONG_ROWS:
            for ahead in range(4):
                with self.assertRaises(InvalidRow) as caught:
                    Table(["end"], good[:ahead] + [wrong] + good[ahead:])
                self.assertEqual(caught.exception.index, ahead, wrong)
                self.assertEqual(caught.exception.code, "InvalidRow")

    def test_repeated_keys_at_any_place(self):
        good = [(1, 1), (0, 5), (-4, 4)]
        for row in ((1, 1), (0, 6), (-4, -4)):
            for ahead in range(4):
                # The later one of both is the one that repeats the key.
                keys = [one[0] for one in good]
                with self.assertRaises(InvalidRow) as caught:
                    Table(["end"], good[:ahead] + [row] + good[ahead:])
                self.assertEqual(caught.exception.index, max(ahead, 1 + keys.index(row[0])))

    def test_first_wrong_row(self):
        with self.assertRaises(InvalidRow) as caught:
            Table(["end"], [(1, 2), (3, 4), (1, 5), (0,), None])
        self.assertEqual(caught.exception.index, 2)
        with self.assertRaises(InvalidRow) as caught:
            Table(["end"], [(1, 2), (0,), (1, 5), None])
        self.assertEqual(caught.exception.index, 1)

    def test_rows_that_are_no_list(self):
        for wrong in (None, True, False, 0, 5, "", "ab", "rows"):
            with self.assertRaises(InvalidRow) as caught:
                Table(["end"], wrong)
            self.assertEqual(caught.exception.index, 0)

    def test_lists_are_copied_and_new(self):
        columns, rows = ["end"], [(5, 7), (1, 2)]
        table = Table(columns, rows)
        self.assertEqual((columns, rows), (["end"], [(5, 7), (1, 2)]))
        columns.append("price")
        rows.append((9, 9))
        rows[0] = (0, 0)
        table.rows().append((8, 8))
        table.all_keys().append(8)
        self.assertEqual(table.columns, ("key", "end"))
        self.assertEqual(table.rows(), [(1, 2), (5, 7)])
        self.assertEqual(table.all_keys(), [1, 5])


class TestAsking(unittest.TestCase):

    def setUp(self):
        self.table = Table(["end", "price"], [(5, 7, 0), (-2, 3, 3), (GREAT, 1, -1)])

    def test_at(self):
        self.assertEqual(self.table.at(5), (5, 7, 0))
        self.assertEqual(self.table.at(key=-2), (-2, 3, 3))
        self.assertEqual(self.table.at(GREAT), (GREAT, 1, -1))
        for key in (0, 7, 3, 2, -GREAT, GREAT + 1, GREAT ** 2):
            with self.assertRaises(UnknownKey) as caught:
                self.table.at(key)
            self.assertEqual(caught.exception.key, key)
            self.assertEqual(caught.exception.code, "UnknownKey")
            self.assertIsInstance(caught.exception, Missing)
        self.assertRaises(UnknownKey, Table([]).at, 0)

    def test_in(self):
        for row in self.table.rows():
            self.assertIs(row in self.table, True)
            self.assertNotIn(list(row), self.table)
            self.assertNotIn(row[:2], self.table)
            self.assertNotIn((*row, 0), self.table)
        for value in (None, True, 0, 5, "", "key", (), [], (5, 7, 1), (5, 6, 0), (4, 7, 0), (5, 7, False), (5, 7, None),
                      (5, 7, "0"), (5, 7, (0,)), (5, 7, [0]), ((5, 7, 0),), [(5, 7, 0)], (-2, 3, 3, 3)):
            self.assertIs(value in self.table, False, value)
        ones = Table(["a"], [(1, 0)])
        self.assertIn((1, 0), ones)
        for value in ((True, 0), (1, False), (True, False)):
            self.assertNotIn(value, ones)

    def test_equal(self):
        rows = self.table.rows()
        self.assertTrue(self.table == Table(("end", "price"), rows[::-1]))
        self.assertFalse(self.table != Table(("end", "price"), rows[::-1]))
        for other in (Table(["price", "end"], rows), Table(["end", "prices"], rows), Table(["end", "price"], rows[1:]),
                      Table(["end", "price"], [*rows, (0, 0, 0)]),
                      Table(["end", "price"], [(5, 7, 1), *rows[:1], rows[2]]),
                      Table(["end", "price"], [(6, 7, 0), *rows[:1], rows[2]]), None, 3, "Table(3 rows)", rows,
                      tuple(rows)):
            self.assertFalse(self.table == other)
            self.assertTrue(self.table != other)
        self.assertFalse(Table([]) == Table(["end"]))
        self.assertFalse(Table(["a"]) == Table(["b"]))
        self.assertTrue(Table(["a"]) == Table(["a"]))


class TestAddingAndTakingAway(unittest.TestCase):

    def setUp(self):
        self.table = Table(["end"], [(5, 7), (1, 2), (-GREAT, 0)])

    def tearDown(self):
        # Whatever was done, the first table is as it was.
        self.assertEqual(self.table.rows(), [(-GREAT, 0), (1, 2), (5, 7)])

    def test_further_rows(self):
        for rows in ([(3, 3), (0, 9)], ((3, 3), (0, 9)), [(0, 9), (3, 3)]):
            before = list(rows)
            table = self.table + rows
            self.assertIsInstance(table, Table)
            self.assertEqual(table.rows(), [(-GREAT, 0), (0, 9), (1, 2), (3, 3), (5, 7)])
            self.assertEqual(table.columns, ("key", "end"))
            self.assertEqual(list(rows), before)
        self.assertEqual(self.table + [], self.table)
        self.assertEqual(self.table + (), self.table)
        self.assertEqual((Table([]) + [(GREAT * 4,)]).rows(), [(GREAT * 4,)])

    def test_wrong_further_rows(self):
        good = [(8, 1), (7, 2)]
        for wrong in (*WRONG_ROWS, (5, 7), (1, 9), (-GREAT, 0)):
            for ahead in range(3):
                with self.assertRaises(InvalidRow) as caught:
                    self.table + [*good[:ahead], wrong, *good[ahead:]]
                self.assertEqual(caught.exception.index, ahead)
        for rows, index in (([(8, 1), (8, 1)], 1), ([(8, 1), (7, 2), (8, 3), (5, 7)], 2),
                            ([(8, 1), (5, 7), (8, 1)], 1)):
            with self.assertRaises(InvalidRow) as caught:
                self.table + rows
            self.assertEqual(caught.exception.index, index)
        for wrong in (None, True, False, 0, 5, "", "rows"):
            with self.assertRaises(InvalidRow) as caught:
                self.table + wrong
            self.assertEqual(caught.exception.index, 0)

    def test_without_keys(self):
        self.assertEqual((self.table - [1]).rows(), [(-GREAT, 0), (5, 7)])
        self.assertEqual((self.table - (5, -GREAT)).rows(), [(1, 2)])
        self.assertEqual((self.table - [1, 1, 99, 2, 7, 0]).rows(), [(-GREAT, 0), (5, 7)])
        self.assertEqual(self.table - [], self.table)
        self.assertEqual(self.table - [2, 7, 0, GREAT], self.table)
        self.assertEqual((self.table - self.table.all_keys()).rows(), [])
        self.assertEqual((self.table - [1]).columns, ("key", "end"))
        keys = [5]
        self.assertIsInstance(self.table - keys, Table)
        self.assertEqual(keys, [5])

    def test_random_ones(self):
        dice = random.Random(9)
        for _ in range(200):
            model = {key: dice.randint(-9, 9) for key in dice.sample(range(-9, 10), dice.randint(0, 8))}
            table = Table(["end"], dice.sample(list(model.items()), len(model)))
            for _ in range(4):
                new = {key: key for key in dice.sample(range(-9, 10), 3) if key not in model}
                table = table + list(new.items())
                model |= new
                gone = dice.sample(range(-9, 10), 3)
                table = table - gone
                model = {key: end for key, end in model.items() if key not in gone}
                self.assertEqual(table.rows(), sorted(model.items()))


if __name__ == "__main__":
    unittest.main()
