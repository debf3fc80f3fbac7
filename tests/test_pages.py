"""Tests of lookedrows.pages."""

import random
import re
import unittest

from helpers import right_name
from lookedrows.errors import InvalidLine, NothingLeft
from lookedrows.pages import read_page, write_page
from lookedrows.procedures import Procedure
from lookedrows.rules import Rules
from lookedrows.shelves import Shelf
from lookedrows.tables import Table
from test_texts import KINDS, Wrong, lines_of, require, some_break, some_thing

A, YES = ("name", "a"), ("true",)
NAMES = [first + second for first in "abcdefgh" for second in "pqrst"]


def shelf_of(entries, limit=40):
    shelf = Shelf(limit=limit)
    shelf.apply(*[("enter", name, entry) for name, entry in entries.items()])
    return shelf


def told_page(entries):
    """The page, said once more: of a dict from names to pairs of a kind and an entry."""
    return "".join(f"entry {name}\n" + KINDS[kind][0](thing) for name, (kind, thing) in sorted(entries.items()))


def entries_of(text):
    """The entries of a page, said once more; raises Wrong."""
    lines = lines_of(text)
    names = [re.fullmatch("entry ([a-z]{1,6})\n", line) for line in lines]
    starts = [at for at, found in enumerate(names) if found and right_name(found[1])]
    require(starts[:1] == [0] or not lines, 0)
    entries = {}
    for start, end in zip(starts, [*starts[1:], len(lines)]):
        name = lines[start][6:-1]
        require(len(entries) < 40 and (not entries or max(entries) < name), start)
        kind = lines[start + 1].split()[:1] if start + 1 < end else []
        require(kind and kind[0] in KINDS, start + 1)
        try:
            entries[name] = KINDS[kind[0]][2]("".join(lines[start + 1:end]))
        except Wrong as wrong:
            raise Wrong(start + 1 + wrong.index) from None
    return entries


class Pages(unittest.TestCase):

    def check_wrong(self, text, index):
        with self.assertRaises(InvalidLine, msg=text) as caught:
            read_page(text)
        self.assertEqual((caught.exception.index, caught.exception.code), (index, "InvalidLine"), text)

    def check_right(self, text, entries):
        shelf = read_page(text)
        self.assertIsInstance(shelf, Shelf)
        self.assertEqual(shelf.names(), sorted(entries))
        for name, entry in entries.items():
            self.assertTrue(shelf.entry(name) == entry)
        self.assertEqual((shelf.limit, shelf.history(), shelf.kept(), shelf.computed, shelf.busy),
                         (40, (0, 0), [], 0, False))
        self.assertEqual(write_page(shelf), text)
        for method in (shelf.undo, shelf.redo):
            self.assertRaises(NothingLeft, method)
        return shelf

    def some_entries(self, dice, many):
        return {name: some_thing(dice) for name in dice.sample(NAMES, many)}


class TestRight(Pages):

    def test_by_hand(self):
        self.assertEqual(write_page(Shelf()), "")
        self.check_right("", {})
        shelf = shelf_of({"put": Procedure([], ["a"], [("insert", "r", (A,))]), "low": Rules(["end"], rows=[YES]),
                          "base": Table(["end"], [(3, 4), (-1, 10 ** 40)])})
        page = f"entry base\ntable end\n-1 {10 ** 40}\n3 4\nentry low\nrules end\nrow true\n" \
               "entry put\nprocedure\narguments a\ninsert r a\n"
        self.assertEqual(write_page(shelf), page)
        self.check_right(page, {name: shelf.entry(name) for name in shelf.names()})
        self.assertTrue(read_page(page) == shelf)

    def test_drawn_shelves(self):
        for seed in range(150):
            dice = random.Random(seed)
            entries = self.some_entries(dice, dice.choice([0, 1, 2, 3, 5, 9]))
            things = {name: thing for name, (_, thing) in entries.items()}
            shelf = shelf_of(things)
            self.assertEqual(write_page(shelf=shelf), told_page(entries))
            self.assertTrue(self.check_right(told_page(entries), things) == shelf)
            self.assertEqual(shelf.history(), (1 if entries else 0, 0))

    def test_forty_entries(self):
        entries = self.some_entries(random.Random(1), 40)
        self.check_right(told_page(entries), {name: thing for name, (_, thing) in entries.items()})

    def test_what_a_shelf_has_besides_its_entries_is_not_told(self):
        shelf = shelf_of({"low": Rules([]), "put": Procedure([], ["a"], [("insert", "r", (A,))])}, limit=2)
        shelf.asked("never", "low", "put")
        twin = read_page(write_page(shelf))
        self.assertTrue(twin == shelf)
        self.assertEqual((twin.limit, twin.history(), twin.kept(), twin.computed), (40, (0, 0), [], 0))
        twin.apply(("drop", "low"))
        self.assertEqual((twin.history(), shelf.names()), ((1, 0), ["low", "put"]))
        twin.undo()
        self.assertEqual((twin.names(), twin.history()), (["low", "put"], (0, 1)))
        self.assertEqual((shelf.limit, shelf.history(), shelf.kept()), (2, (1, 0), [("never", "low", "put")]))

    def test_entries_behind_undone_steps(self):
        shelf = shelf_of({"a": Rules([])})
        shelf.apply(("drop", "a"))
        self.assertEqual(write_page(shelf), "")
        shelf.undo()
        self.assertEqual(write_page(shelf), "entry a\nrules\n")


class TestBroken(Pages):

    def test_by_hand(self):
        for text, index in (
            ("\n", 0), ("entry", 0), ("entry\n", 0), ("entry a", 0), ("entry a\n", 1), ("entry A\nrules\n", 0),
            ("entry key\nrules\n", 0), ("entry a b\nrules\n", 0), (" entry a\nrules\n", 0), ("entry  a\nrules\n", 0),
            ("entry a \nrules\n", 0), ("rules\n", 0), ("entry a\nrules", 1), ("entry a\nrule\n", 1),
            ("entry a\nrules\n\n", 2), ("entry a\nentry b\nrules\n", 1), ("entry a\nrules\nentry a\nrules\n", 2),
            ("entry b\nrules\nentry a\nrules\n", 2), ("entry a\nrules\nentry b\n", 3), ("entry a\nrules\nentry b", 2),
            ("entry a\nrules\nentry B\nrules\n", 2), ("entry a\nrules\nrules\n", 2),
            ("entry a\nrules\nrow own.x < 1\n", 2),
            ("entry a\ntable\n5\n4\nentry b\nrules\n", 3), ("entry a\nprocedure\nentry b\nrules\n", 2),
            ("entry a\nprocedure\narguments\nif true\nentry b\nrules\n", 4),
            ("entry a\nprocedure\narguments\nif true\nelse\n", 5),
            ("entry a\nrules end\nnext not own.end = next.end\nentry b\nrules\n", 3),
            ("entry a\nrules end\nnext not own.end = next.end\n", 3),
            ("entry a\nrules end\nnext not own.end = next.end\nentry a\nrules\n", 3),
            ("entry a\nrules\nentry b\nrules end\nrow true\nnext not own.end = next.end\nentry c\nrules\n", 6),
            ("entry a\ntable\n1\nentry b\ntable\n2\n2\n", 6), ("entry a\ntable\n1\n2", 3),
        ):
            self.check_wrong(text, index)

    def test_no_text(self):
        for wrong in (None, True, False, 0, 7, (), [], [""], ("entry a",), ["entry a\n", "rules\n"]):
            self.check_wrong(wrong, 0)

    def test_a_forty_first_entry(self):
        names = sorted(NAMES)
        page = "".join(f"entry {name}\nrules\n" for name in names)
        self.assertEqual(len(read_page(page)), 40)
        for further in ("entry z\nrules\n", "entry z\n", "entry z\nwrong\n", "entry z\nrules\nentry zz\nrules\n"):
            self.check_wrong(page + further, 80)
        self.check_wrong(page + "entry Z\n", 80)
        self.check_wrong(page + "entry a\n", 80)

    def test_exchanged_and_repeated_entries(self):
        texts = [f"entry {name}\ntable\n{at}\n" for at, name in enumerate("abcd")]
        self.assertEqual(len(read_page("".join(texts))), 4)
        for one in range(4):
            for other in range(one + 1, 4):
                some = list(texts)
                some[one], some[other] = some[other], some[one]
                self.check_wrong("".join(some), 3 * one + 3)
                some = list(texts)
                some[other] = texts[one]
                self.check_wrong("".join(some), 3 * other)

    def test_cut_behind_any_line(self):
        for seed in range(20):
            entries = self.some_entries(random.Random(seed), 4)
            lines = lines_of(told_page(entries))
            for many in range(len(lines) + 1):
                self.check_any("".join(lines[:many]))
                if many:
                    self.check_wrong("".join(lines[:many])[:-1], many - 1)

    def check_any(self, text):
        try:
            entries = entries_of(text)
        except Wrong as wrong:
            self.check_wrong(text, wrong.index)
            return False
        self.check_right(text, entries)
        return True

    def test_random_breaks(self):
        seen = {True: 0, False: 0}
        for seed in range(2500):
            dice = random.Random(seed)
            text = told_page(self.some_entries(dice, dice.randint(1, 4)))
            if dice.random() < 0.15:
                lines = lines_of(text)
                lines.insert(dice.randrange(len(lines) + 1), dice.choice(["entry a\n", "entry zz\n",
                                                                          "entry mm\nrules\n",
                                                                          "entry\n", "entry Z\n"]))
                text = "".join(lines)
            else:
                text = some_break(dice, text)
            seen[self.check_any(text)] += 1
        self.assertGreater(min(seen.values()), 100, seen)


if __name__ == "__main__":
    unittest.main()
