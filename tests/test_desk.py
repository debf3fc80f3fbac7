"""Tests of lookedrows.desk."""

import random
import unittest

from lookedrows.desk import Desk
from lookedrows.errors import TableError
from lookedrows.procedures import Procedure
from lookedrows.rules import Rules
from lookedrows.shelves import Shelf
from lookedrows.tables import Table
from players import CLASSES, PAIRS

A, B = ("name", "a"), ("name", "b")
ALL, YES = (None, None), ("true",)
PUT = Procedure([], ["a"], [("insert", "r", (A,))])
BOTH = Procedure([], ["a", "b"], [("insert", "r", (A,)), ("insert", "s", (B,))])
CLEAR = Procedure([], [], [("clear", ALL, YES)])
LATE = Procedure([], ["a"], [("clear", ALL, YES), ("insert", "r", (A,))])
WIDE = Procedure([], [], [("step", "r", "next", "r")] * 7)
SECOND = Procedure([], [], [("find", "r", "first", ALL, YES), ("step", "r", "next", "r"),
                            ("if", ("found", "r"), [("fail", "x")], [])])
END = Rules(["end"])


def filled():
    shelf = Shelf(limit=20)
    shelf.apply(("enter", "all", Rules([])), ("enter", "end", END), ("enter", "put", PUT), ("enter", "both", BOTH),
                ("enter", "clear", CLEAR), ("enter", "late", LATE), ("enter", "wide", WIDE),
                ("enter", "second", SECOND),
                ("enter", "base", Table([], [(4,)])))
    return shelf


NAMES = "all base both clear end late put second wide"


class TestDesk(unittest.TestCase):

    def check(self, pairs, shelf=None):
        """Says lines to a desk and checks the answers; the desk."""
        desk = Desk(shelf=filled() if shelf is None else shelf)
        for line, answer in pairs:
            self.assertEqual(desk.say(line), answer, line)
            self.assertIs(type(answer), str)
        self.assertEqual(desk.log(), list(pairs))
        self.assertEqual(len(desk), len(pairs))
        return desk

    def check_each(self, pairs):
        """Each line is said to a desk of its own, by say and by a call."""
        for line, answer in pairs:
            self.check([(line, answer)])
            desk = Desk(shelf=filled())
            self.assertEqual(desk(line), answer, line)
            self.assertEqual((desk.log(), len(desk)), ([(line, answer)], 1))

    def test_names(self):
        self.check_each([("names", NAMES)])
        self.check([("names", "none"), ("names", "none")], Shelf())
        self.check([("names", "none")] * 3 + [("names ", "unknown")], Shelf())

    def test_kind(self):
        self.check_each([("kind all", "rules"), ("kind base", "table"), ("kind put", "procedure"),
                         ("kind zzz", "error UnknownName"), ("kind ", "error UnknownName"),
                         ("kind Put", "error UnknownName"), ("kind put\n", "error UnknownName"),
                         ("kind", "unknown"), ("kind put base", "unknown"), ("kind  put", "unknown"),
                         ("kind put ", "unknown")])

    def test_ask(self):
        self.check_each([
            ("ask never all put", "no 1"), ("ask never all second", "no 2"), ("ask never all clear", "yes"),
            ("ask twice all put", "yes"), ("ask keeps all put", "yes"), ("ask alike all put put", "yes"),
            ("ask alike all put clear", "no 0"), ("ask exchanged all put clear", "no 0"),
            ("ask undone all clear put", "no 0"), ("ask woven all put clear", "yes"), ("ask again all put", "no 0"),
            ("ask", "unknown"), ("ask never", "unknown"), ("ask never all", "unknown"),
            ("ask never all put ", "error UnknownName"),
            ("ask never all ", "error UnknownName"), ("ask  all put", "error InvalidName"),
            ("ask x all put", "error InvalidName"),
            ("ask never  put", "error UnknownName"), ("ask never put put", "error WrongKind"),
            ("ask never zzz zzz", "error UnknownName"), ("ask never all base", "error WrongKind"),
            ("ask never all put put", "error InvalidArguments"), ("ask alike all put", "error InvalidArguments"),
            ("ask alike all put put put", "error InvalidArguments"), ("ask never end put", "error ColumnsDiffer"),
            ("ask woven all late put", "error FailsLate"), ("ask twice all wide", "error TooWide"),
            ("ask Never all put", "error InvalidName"), ("ask never all put zzz", "error UnknownName"),
        ])

    def test_run(self):
        self.check_each([
            ("run new put base 5", "done"), ("run new put base -5", "done"), ("run new put base 0", "done"),
            ("run new clear base", "done"), ("run new both base 5 -6", "done"), ("run new put base 4", "error Failed"),
            ("run new put base", "error InvalidArguments"), ("run new put base 5 6", "error InvalidArguments"),
            ("run new clear base 5", "error InvalidArguments"), ("run New put base 5", "error InvalidName"),
            ("run  put base 5", "error InvalidName"), ("run put put base 5", "error DuplicateName"),
            ("run new zzz base 5", "error UnknownName"), ("run new put zzz 5", "error UnknownName"),
            ("run new base put 5", "error WrongKind"), ("run new put put 5", "error WrongKind"),
            ("run", "unknown"), ("run new", "unknown"), ("run new put", "unknown"), ("run new put base ", "unknown"),
            ("run new put base  5", "unknown"), ("run new put base 5 ", "unknown"), ("run new put base +5", "unknown"),
            ("run new put base 05", "unknown"), ("run new put base -0", "unknown"), ("run new put base 00", "unknown"),
            ("run new put base -05", "unknown"), ("run new put base --5", "unknown"),
            ("run new put base 5.0", "unknown"),
            ("run new put base 5x", "unknown"), ("run new put base -", "unknown"), ("run new put base a", "unknown"),
            ("run new put base 1_0", "unknown"), ("run new put base 5\n", "unknown"),
            ("run new put base 1e3", "unknown"),
            ("run zzz zzz zzz x", "unknown"), ("run new put base " + "9" * 31, "done"),
            ("run new put base -" + "9" * 31, "done"), ("run new put base " + "9" * 32, "unknown"),
            ("run new put base -" + "1" + "0" * 31, "unknown"), ("run new put base 1" + "0" * 30, "done"),
            ("run new put base 5 x", "unknown"), ("run New zzz base 05", "unknown"),
        ])
        names = "all base both clear end late new put second wide"
        desk = self.check([("run new both base 5 -" + "7" * 31, "done"), ("names", names)])
        self.assertEqual(desk.shelf().entry("new").all_keys(), [-int("7" * 31), 4, 5])

    def test_drop_rename_undo_redo(self):
        self.check_each([
            ("drop put", "done"), ("drop zzz", "error UnknownName"), ("drop ", "error UnknownName"),
            ("drop", "unknown"),
            ("drop put base", "unknown"), ("drop  put", "unknown"), ("rename put new", "done"),
            ("rename put put", "error DuplicateName"), ("rename put base", "error DuplicateName"),
            ("rename zzz New", "error UnknownName"), ("rename put New", "error InvalidName"),
            ("rename put ", "error InvalidName"), ("rename  put", "error UnknownName"), ("rename put", "unknown"),
            ("rename put new x", "unknown"), ("rename", "unknown"), ("undo", "done"), ("redo", "error NothingLeft"),
            ("undo ", "unknown"), ("undo 1", "unknown"), ("redo all", "unknown"), (" undo", "unknown"),
        ])
        desk = self.check([
            ("drop put", "done"), ("undo", "done"), ("kind put", "procedure"), ("redo", "done"),
            ("kind put", "error UnknownName"), ("redo", "error NothingLeft"), ("undo", "done"), ("undo", "done"),
            ("undo", "error NothingLeft"), ("names", "none"), ("redo", "done"), ("rename put lay", "done"),
            ("redo", "error NothingLeft"), ("ask never all lay", "no 1"), ("kind lay", "procedure"),
        ])
        self.assertEqual(desk.shelf().history(), (2, 0))
        self.assertEqual(desk.shelf().kept(), [("never", "all", "lay")])

    def test_every_other_line(self):
        self.check_each([(line, "unknown") for line in (
            "", " ", "  ", "\n", "name", "names all", "Names", "NAMES", " names", "names ", "names\n", "enter put",
            "apply", "help", "undo\n", "asknever all put", "kindput", "entry put", "limit", "limit 3", "quit",
            "none", "done",
            "error", "unknown", "drop\tput", "names names",
        )])

    def test_full(self):
        shelf = Shelf(limit=2)
        shelf.apply(("enter", "base", Table([])), ("enter", "clear", CLEAR))
        self.check([("run new clear base", "error Full"), ("drop base", "done"),
        ("run new clear base", "error UnknownName"),
                    ("undo", "done"), ("names", "base clear")], shelf)

    def test_a_desk_with_and_without_a_shelf(self):
        desk, other = Desk(), Desk(shelf=None)
        self.assertIsInstance(desk.shelf(), Shelf)
        self.assertEqual((len(desk.shelf()), desk.shelf().limit, desk.shelf().history()), (0, 12, (0, 0)))
        self.assertIsNot(desk.shelf(), other.shelf())
        self.assertIs(desk.shelf(), desk.shelf())
        # A shelf without entries is used, too.
        empty = Shelf(limit=3)
        desk = Desk(shelf=empty)
        self.assertIs(desk.shelf(), empty)
        empty.apply(("enter", "base", Table([])))
        self.assertEqual(desk.say(line="names"), "base")
        self.assertEqual(desk.say("drop base"), "done")
        self.assertEqual((empty.names(), empty.history()), ([], (2, 0)))
        second = Desk(shelf=empty)
        self.assertEqual((second(line="undo"), desk.say("names")), ("done", "base"))
        self.assertEqual((len(desk), len(second), second.log()), (3, 1, [("undo", "done")]))

    def test_log(self):
        desk = Desk()
        self.assertEqual((desk.log(), len(desk)), ([], 0))
        desk.say("names")
        desk("what")
        desk.say("drop x")
        pairs = [("names", "none"), ("what", "unknown"), ("drop x", "error UnknownName")]
        self.assertEqual((desk.log(), len(desk)), (pairs, 3))
        desk.log().append(None)
        self.assertEqual(desk.log(), pairs)
        self.assertTrue(all(type(pair) is tuple for pair in desk.log()))

    def test_against_the_shelf(self):
        """Lines do what commands do."""
        seen = {}
        for seed in range(60):
            dice = random.Random(seed)
            desk, twin = Desk(shelf=filled()), filled()
            for _ in range(40):
                line = self.some_line(dice)
                answer = desk.say(line)
                self.assertEqual(answer, self.by_shelf(twin, line.split(" ")), line)
                self.assertTrue(desk.shelf() == twin)
                self.assertEqual((desk.shelf().history(), desk.shelf().kept(), desk.shelf().computed),
                                 (twin.history(), twin.kept(), twin.computed))
                seen[answer.split(" ")[0]] = seen.get(answer.split(" ")[0], 0) + 1
        for word in ("done", "error", "yes", "no"):
            self.assertGreater(seen[word], 50, seen)

    def some_line(self, dice):
        name = lambda: dice.choice(NAMES.split() + ["new", "old", "zzz"])
        word = dice.choice(["names", "kind", "ask", "ask", "run", "run", "drop", "rename", "undo", "redo"])
        if word == "ask":
            topic = dice.choice(list(CLASSES))
            procedures = [dice.choice(["put", "both", "clear", "second", name()]) for _ in range(1 + (topic in PAIRS))]
            return " ".join([word, topic, dice.choice(["all", "all", name()]), *procedures])
        if word == "run":
            procedure, many = dice.choice([("put", 1), ("both", 2), ("clear", 0), (name(), 1)])
            return " ".join([word, dice.choice(["new", "old", name()]), procedure, dice.choice(["base", "new", name()]),
                             *[str(dice.randint(-9, 9)) for _ in range(many)]])
        return " ".join([word, *[name() for _ in range({"kind": 1, "drop": 1, "rename": 2}.get(word, 0))]])

    def by_shelf(self, shelf, words):
        try:
            match words:
                case ["names"]:
                    return " ".join(shelf.names()) or "none"
                case ["kind", name]:
                    return shelf.kind(name)
                case ["ask", word, rules, *procedures]:
                    verdict = shelf.asked(word, rules, *procedures)
                    return "yes" if verdict.holds else f"no {len(verdict.table)}"
                case ["run", fresh, procedure, table, *numbers]:
                    shelf.apply(("run", fresh, procedure, table, [int(number) for number in numbers]))
                case ["drop" | "rename", *_]:
                    shelf.apply(tuple(words))
                case [word]:
                    {"undo": shelf.undo, "redo": shelf.redo}[word]()
        except (TableError, LookupError) as error:
            return f"error {error.code}"
        return "done"


if __name__ == "__main__":
    unittest.main()
