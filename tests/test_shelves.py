"""Tests of lookedrows.shelves, with a model of shelves of the tests' own."""

import random
import unittest

from helpers import right_name
from lookedrows.errors import (ColumnsDiffer, DuplicateName, Failed, FailsLate, Full, InvalidArguments, InvalidCommand,
                               InvalidLimit, InvalidName, Missing, NothingLeft, TableError, TooWide, UnknownName,
                               WrongKind)
from lookedrows.procedures import Procedure
from lookedrows.questions import Alike
from lookedrows.rules import Rules
from lookedrows.shelves import Shelf
from lookedrows.tables import Table
from lookedrows.verdicts import No, Yes
from players import CLASSES, PAIRS, play, question_of

A = ("name", "a")
ALL, YES = (None, None), ("true",)
FIND, STEP = ("find", "r", "first", ALL, YES), ("step", "r", "next", "r")
GREAT = 10 ** 30
PUT = Procedure([], ["a"], [("insert", "r", (A,))])
TAKE = Procedure([], ["a"], [("find", "r", "first", (A, ("plus", A, 1)), YES), ("delete", "r")])
CLEAR = Procedure([], [], [("clear", ALL, YES)])
BOOK = Procedure(["end"], ["a", "b"], [("insert", "r", (A, ("name", "b")))])
LOW = Rules([], rows=[("below", ("own", "key"), ("number", 9))])
NO_NAMES = (None, True, False, 0, 1, "", "A", "key", "own", "sevenll", "a b", "a\n", (), [], ("a",), ["a"], (1, 2))
ENTRIES = [Rules([]), Rules(["end"]), LOW, Table([]), Table([], [(1,)]),
           Table(["end"], [(1, 2)]), PUT, TAKE, CLEAR, BOOK]


def kind_of(entry):
    return type(entry).__name__.lower()


def caught(action, *values):
    """The error that an action raises, as the pair of its code and its attribute, or None."""
    try:
        action(*values)
    except (TableError, Missing, NothingLeft) as error:
        told = {name: value for name, value in vars(error).items() if name != "code"}
        return error.code, next(iter(told.values()), None)
    return None


# ---- shelves, said once more

class Refused(Exception):
    """The model refuses something."""


def refuse(wrong, code, told=None):
    if wrong:
        raise Refused(code, told)


class Model:
    """Entries, steps and kept answers, by the words of the document."""

    def __init__(self, limit=12):
        self.limit, self.entries, self.before, self.behind = limit, {}, [], []
        self.answers, self.computed = {}, 0

    def is_there(self, name, entries):
        return type(name) is str and name in entries

    def need(self, name, entries, kind=None):
        refuse(not self.is_there(name, entries), "UnknownName", name)
        refuse(kind is not None and kind_of(entries[name]) != kind, "WrongKind", name)
        return entries[name]

    def new(self, name, entries, adding=True):
        refuse(not right_name(name), "InvalidName", name)
        refuse(name in entries, "DuplicateName", name)
        refuse(adding and len(entries) >= self.limit, "Full", self.limit)

    def do(self, entries, command):
        word, *rest = command
        if word == "enter":
            self.new(rest[0], entries)
            entries[rest[0]] = rest[1]
        if word == "replace":
            self.need(rest[0], entries, kind_of(rest[1]))
            entries[rest[0]] = rest[1]
        if word == "drop":
            self.need(rest[0], entries)
            del entries[rest[0]]
        if word == "rename":
            entry = self.need(rest[0], entries)
            self.new(rest[1], entries, False)
            del entries[rest[0]]
            entries[rest[1]] = entry
        if word == "run":
            fresh, procedure, table, numbers = rest
            self.new(fresh, entries)
            what, where = self.need(procedure, entries, "procedure"), self.need(table, entries, "table")
            refuse(what.columns != where.columns, "ColumnsDiffer")
            good = type(numbers) in (list, tuple) and all(type(number) is int for number in numbers)
            refuse(not good or len(numbers) != len(what.arguments), "InvalidArguments")
            ending, behind = play(what, where.rows(), dict(zip(what.arguments, numbers)))
            refuse(ending[0] == "failed", "Failed", ending[1])
            entries[fresh] = Table(where.columns[1:], behind)

    def apply(self, *commands):
        for index, command in enumerate(commands):
            sizes = {"enter": 3, "replace": 3, "run": 5, "drop": 2, "rename": 3}
            good = type(command) is tuple and len(command) > 0 and type(command[0]) is str
            good = good and sizes.get(command[0]) == len(command)
            if good and command[0] in ("enter", "replace"):
                good = isinstance(command[2], (Rules, Table, Procedure))
            refuse(not good, "InvalidCommand", index)
        entries = dict(self.entries)
        for command in commands:
            self.do(entries, command)
        if commands:
            self.step(self.before, entries)
            self.behind = []

    def step(self, pile, entries):
        pile.append(self.entries)
        self.answers = {key: answer for key, answer in self.answers.items() if all(
            name in entries and entries[name] == self.entries[name] for name in key[1:])}
        self.entries = entries

    def undo(self):
        refuse(not self.before, "NothingLeft")
        self.step(self.behind, self.before.pop())
        self.answers = {}

    def redo(self):
        refuse(not self.behind, "NothingLeft")
        self.step(self.before, self.behind.pop())
        self.answers = {}

    def asked(self, word, rules, *procedures):
        refuse(type(word) is not str or word not in CLASSES, "InvalidName", word)
        kept = self.need(rules, self.entries, "rules")
        whom = [self.need(name, self.entries, "procedure") for name in procedures]
        refuse(len(whom) != 1 + (word in PAIRS), "InvalidArguments")
        if (word, rules, *procedures) not in self.answers:
            error = caught(lambda: question_of(word, whom).ask(kept))
            refuse(error is not None, *(error or ("", None)))
            self.answers[word, rules, *procedures] = question_of(word, whom).ask(kept).told()
            self.computed += 1
        return self.answers[word, rules, *procedures]


class Shelves(unittest.TestCase):

    def check_same(self, shelf, model):
        self.assertEqual(shelf.names(), sorted(model.entries))
        for name, entry in model.entries.items():
            self.assertTrue(shelf.entry(name) == entry)
            self.assertEqual(shelf.kind(name), kind_of(entry))
            self.assertIn(name, shelf)
        self.assertEqual(len(shelf), len(model.entries))
        self.assertEqual(repr(shelf), f"Shelf({len(model.entries)} entries)")
        self.assertEqual(shelf.history(), (len(model.before), len(model.behind)))
        self.assertEqual(shelf.kept(), sorted(model.answers))
        self.assertEqual((shelf.computed, shelf.limit, shelf.busy), (model.computed, model.limit, False))

    def do_both(self, shelf, model, method, *values):
        """Does the same to both, and checks that the same comes of it."""
        try:
            right = getattr(model, method)(*values)
            refused = None
        except Refused as error:
            refused, right = error.args, None
        if refused is None:
            self.assertEqual(caught(getattr(shelf, method), *values), None, values)
        else:
            self.assertEqual(caught(getattr(shelf, method), *values), refused, (method, values))
        self.check_same(shelf, model)
        return refused, right

    def filled(self, **entries):
        shelf = Shelf(limit=40)
        shelf.apply(*[("enter", name, entry) for name, entry in entries.items()])
        return shelf


class TestCommands(Shelves):

    def test_each_command_right(self):
        shelf = Shelf()
        self.assertEqual((shelf.names(), len(shelf), shelf.history(), shelf.limit), ([], 0, (0, 0), 12))
        self.assertIsNone(shelf.apply(("enter", "base", Table([], [(4,)]))))
        self.assertIsNone(shelf.apply(("enter", "put", PUT)))
        shelf.apply(("enter", "low", LOW))
        self.assertEqual((shelf.names(), shelf.history()), (["base", "low", "put"], (3, 0)))
        self.assertEqual([shelf.kind(name) for name in shelf.names()], ["table", "rules", "procedure"])
        shelf.apply(("run", "more", "put", "base", [7]))
        self.assertEqual((shelf.entry("more").rows(), shelf.entry("base").rows()), ([(4,), (7,)], [(4,)]))
        shelf.apply(("run", "most", "put", "more", (GREAT ** 2,)))
        self.assertEqual(shelf.entry("most").all_keys(), [4, 7, GREAT ** 2])
        shelf.apply(("replace", "base", Table(["end"], [(1, 1)])))
        self.assertEqual(shelf.entry("base").columns, ("key", "end"))
        shelf.apply(("rename", "more", "less"))
        self.assertEqual(shelf.names(), ["base", "less", "low", "most", "put"])
        shelf.apply(("drop", "low"))
        self.assertEqual((shelf.names(), shelf.history()), (["base", "less", "most", "put"], (8, 0)))
        self.assertNotIn("low", shelf)

    def test_names_by_kinds(self):
        shelf = self.filled(b=LOW, a=PUT, d=Table([]), c=TAKE)
        for kinds, names in (((), ["a", "b", "c", "d"]), (("rules",), ["b"]), (("table",), ["d"]),
                             (("procedure",), ["a", "c"]), (("procedure", "rules"), ["a", "b", "c"]),
                             (("procedure", "procedure"), ["a", "c"]), (("table", "rules", "table"), ["b", "d"])):
            self.assertEqual(shelf.names(*kinds), names)
            self.assertIs(type(shelf.names(*kinds)), list)
            shelf.names(*kinds).append(None)
        self.assertEqual(shelf.names(), ["a", "b", "c", "d"])

    def test_unknown_names(self):
        shelf = self.filled(a=LOW)
        for wrong in ("b", "ab", *NO_NAMES):
            for method in (shelf.kind, shelf.entry):
                self.assertEqual(caught(method, wrong), ("UnknownName", wrong))
            self.assertIs(wrong in shelf, False)
        self.assertIs("a" in shelf, True)
        for wrong in (LOW, Shelf, {}, {"a": 1}, 1.5, b"a"):
            self.assertIs(wrong in shelf, False)
        with self.assertRaises(LookupError):
            shelf.entry(name="zzz")

    def test_each_command_wrong(self):
        table, end = Table([], [(4,)]), Table(["end"])
        for command, error in (
            (("enter", "A", LOW), ("InvalidName", "A")), (("enter", "p", LOW), ("DuplicateName", "p")),
            (("replace", "q", LOW), ("UnknownName", "q")), (("replace", "t", LOW), ("WrongKind", "t")),
            (("replace", "p", table), ("WrongKind", "p")), (("replace", "l", PUT), ("WrongKind", "l")),
            (("drop", "q"), ("UnknownName", "q")), (("rename", "q", "A"), ("UnknownName", "q")),
            (("rename", "p", "A"), ("InvalidName", "A")), (("rename", "p", "t"), ("DuplicateName", "t")),
            (("rename", "p", "p"), ("DuplicateName", "p")), (("rename", "p", "key"), ("InvalidName", "key")),
            (("run", "A", "q", "q", None), ("InvalidName", "A")),
            (("run", "t", "q", "q", None), ("DuplicateName", "t")),
            (("run", "n", "q", "z", None), ("UnknownName", "q")), (("run", "n", "t", "z", None), ("WrongKind", "t")),
            (("run", "n", "l", "z", None), ("WrongKind", "l")), (("run", "n", "p", "z", None), ("UnknownName", "z")),
            (("run", "n", "p", "l", None), ("WrongKind", "l")), (("run", "n", "p", "p", None), ("WrongKind", "p")),
            (("run", "n", "p", "e", None), ("ColumnsDiffer", None)),
            (("run", "n", "p", "e", [1]), ("ColumnsDiffer", None)),
            (("run", "n", "p", "t", None), ("InvalidArguments", None)),
            (("run", "n", "p", "t", []), ("InvalidArguments", None)),
            (("run", "n", "p", "t", [1, 2]), ("InvalidArguments", None)),
            (("run", "n", "p", "t", [True]), ("InvalidArguments", None)),
            (("run", "n", "p", "t", "1"), ("InvalidArguments", None)),
            (("run", "n", "p", "t", 1), ("InvalidArguments", None)),
            (("run", "n", "c", "t", None), ("InvalidArguments", None)),
            (("run", "n", "c", "t", ""), ("InvalidArguments", None)),
            (("run", "n", "p", "t", [4]), ("Failed", "taken")), (("run", "n", "k", "t", [5]), ("Failed", "none")),
        ):
            shelf = self.filled(t=table, p=PUT, l=LOW, e=end, c=CLEAR, k=TAKE)
            model = self.modelled(shelf)
            self.assertEqual(caught(shelf.apply, command), error, command)
            self.check_same(shelf, model)
            self.assertEqual(self.do_both(shelf, model, "apply", command)[0], error)

    def modelled(self, shelf):
        """The model of a shelf without kept answers and undone steps."""
        model = Model(shelf.limit)
        model.entries = {name: shelf.entry(name) for name in shelf.names()}
        model.before = [{}] * shelf.history()[0]
        return model

    def test_names_of_any_form(self):
        for wrong in NO_NAMES:
            shelf = self.filled(t=Table([]), p=PUT)
            for command, error in (
                (("enter", wrong, LOW), "InvalidName"), (("run", wrong, "q", "q", 1), "InvalidName"),
                (("rename", "t", wrong), "InvalidName"), (("replace", wrong, LOW), "UnknownName"),
                (("drop", wrong), "UnknownName"), (("rename", wrong, wrong), "UnknownName"),
                (("run", "n", wrong, "t", []), "UnknownName"), (("run", "n", "p", wrong, []), "UnknownName"),
            ):
                self.assertEqual(caught(shelf.apply, command), (error, wrong))
                self.assertEqual((shelf.names(), shelf.history(), shelf.busy), (["p", "t"], (1, 0), False))

    def test_full(self):
        shelf = Shelf(limit=2)
        shelf.apply(("enter", "t", Table([])), ("enter", "p", CLEAR))
        for command, error in (
            (("enter", "n", LOW), ("Full", 2)), (("enter", "A", LOW), ("InvalidName", "A")),
            (("enter", "t", LOW), ("DuplicateName", "t")), (("run", "n", "q", "q", 0), ("Full", 2)),
            (("run", "n", "p", "t", []), ("Full", 2)), (("run", "t", "p", "t", []), ("DuplicateName", "t")),
        ):
            self.assertEqual(caught(shelf.apply, command), error)
        shelf.apply(("rename", "t", "n"), ("replace", "n", Table(["x"])), ("drop", "p"), ("enter", "p", LOW))
        self.assertEqual(shelf.names(), ["n", "p"])
        # A batch may have room for a while only.
        self.assertEqual(caught(shelf.apply, ("drop", "p"), ("enter", "a", LOW), ("enter", "b", LOW)), ("Full", 2))
        self.assertEqual(shelf.names(), ["n", "p"])

    def test_invalid_commands_ahead_of_everything_else(self):
        wrong_ones = (
            None, True, False, 0, 7, "", "drop", "drop a", (), [], ("drop",), ("drop", "a", "b"), ["drop", "a"],
            ("enter", "a"), ("enter", "a", None), ("enter", "a", 1), ("enter", "a", "table"), ("enter", "a", [LOW]),
            ("enter", "a", (1,)), ("enter", "a", LOW, LOW), ["enter", "a", LOW], ("Enter", "a", LOW), ("replace", "a"),
            ("replace", "a", True), ("replace", "a", ()), ("replace", "a", LOW, 1), ("run", "a", "b", "c"),
            ("run", "a", "b", "c", [], []), ("run",), ["run", "a", "b", "c", []], ("rename", "a"),
            ("rename", "a", "b", "c"), ("undo",), ("redo",), ("",), (None,), (0, "a"), (True, "a"), (["drop"], "a"),
            (("drop", "a"),), ("drop ", "a"), (("drop",), "a"), ("ask", "a"), ("enter",), ("names",),
        )
        shelf = self.filled(t=Table([]), p=PUT)
        for wrong in wrong_ones:
            for ahead in range(4):
                for behind in ([], [wrong], [("drop", "zzz")], [None, 0]):
                    some = [("drop", "t"), ("drop", "zzz"), ("enter", "A", LOW)][:ahead]
                    self.assertEqual(caught(shelf.apply, *some, wrong, *behind), ("InvalidCommand", ahead), wrong)
                    self.assertEqual((shelf.names(), shelf.history(), shelf.busy), (["p", "t"], (1, 0), False))
        with self.assertRaises(InvalidCommand):
            shelf.apply(None)

    def test_batches_of_which_a_later_command_is_wrong(self):
        shelf = self.filled(t=Table([], [(1,)]), p=PUT)
        twin = shelf.twin()
        good = [("drop", "t"), ("enter", "t", LOW), ("rename", "p", "q"), ("replace", "q", CLEAR)]
        for many in range(5):
            for wrong, code in ((("drop", "zzz"), "UnknownName"), (("enter", "A", LOW), "InvalidName"),
                                (("run", "n", "zzz", "t", [1]), "UnknownName"),
                                (("rename", "zzz", "a"), "UnknownName")):
                self.assertEqual(caught(shelf.apply, *good[:many], wrong)[0], code)
                self.assertTrue(shelf == twin)
                self.assertEqual((shelf.history(), shelf.busy), ((1, 0), False))
        self.assertEqual(caught(shelf.apply, ("run", "n", "p", "t", [1])), ("Failed", "taken"))
        self.assertEqual(caught(shelf.apply, ("run", "n", "p", "t", [2]), ("run", "m", "p", "n", [2])),
                         ("Failed", "taken"))
        self.assertEqual(shelf.names(), ["p", "t"])
        shelf.apply(("run", "n", "p", "t", [2]), ("run", "m", "p", "n", [3]), ("drop", "n"))
        self.assertEqual(shelf.entry("m").all_keys(), [1, 2, 3])
        self.assertEqual(shelf.history(), (2, 0))

    def test_the_empty_batch_is_no_step(self):
        shelf = self.filled(t=Table([]))
        shelf.undo()
        self.assertIsNone(shelf.apply())
        self.assertEqual(shelf.history(), (0, 1))
        shelf.redo()
        self.assertEqual(shelf.names(), ["t"])

    def test_what_is_passed_stays_as_it_is(self):
        shelf = self.filled(t=Table([]), p=PUT)
        numbers = [5]
        command = ("run", "n", "p", "t", numbers)
        shelf.apply(command)
        numbers.append(None)
        self.assertEqual((command[:4], shelf.entry("n").rows()), (("run", "n", "p", "t"), [(5,)]))
        self.assertEqual(caught(shelf.apply, ("run", "m", "p", "t", numbers)), ("InvalidArguments", None))


class TestSteps(Shelves):

    def test_undo_and_redo(self):
        shelf = Shelf()
        for empty in (shelf.undo, shelf.redo):
            self.assertEqual(caught(empty), ("NothingLeft", None))
            self.assertRaises(IndexError, empty)
        states = [[]]
        for at in range(20):
            name = "abcdefghij"[at % 10]
            shelf.apply(("enter" if at < 10 else "drop", name, LOW)[:3 if at < 10 else 2])
            states.append(shelf.names())
            self.assertEqual(shelf.history(), (at + 1, 0))
        for at in range(20):
            self.assertIsNone(shelf.undo())
            self.assertEqual((shelf.names(), shelf.history()), (states[19 - at], (19 - at, at + 1)))
        self.assertEqual(caught(shelf.undo), ("NothingLeft", None))
        for at in range(20):
            self.assertIsNone(shelf.redo())
            self.assertEqual((shelf.names(), shelf.history()), (states[at + 1], (at + 1, 19 - at)))
        self.assertEqual(caught(shelf.redo), ("NothingLeft", None))
        self.assertEqual(shelf.history(), (20, 0))

    def test_new_steps_behind_an_undo(self):
        shelf = Shelf()
        shelf.apply(("enter", "a", LOW))
        shelf.apply(("enter", "b", LOW))
        shelf.undo()
        self.assertEqual(caught(shelf.apply, ("drop", "zzz")), ("UnknownName", "zzz"))
        self.assertEqual(shelf.history(), (1, 1))
        shelf.apply(("enter", "c", LOW))
        self.assertEqual((shelf.history(), shelf.names()), ((2, 0), ["a", "c"]))
        self.assertEqual(caught(shelf.redo), ("NothingLeft", None))
        shelf.undo()
        shelf.undo()
        self.assertEqual((shelf.names(), shelf.history()), ([], (0, 2)))

    def test_limits(self):
        self.assertEqual(Shelf.MOST, 40)
        self.assertEqual(Shelf().MOST, 40)
        for limit in (1, 2, 12, 39, 40):
            self.assertEqual(Shelf(limit=limit).limit, limit)
        shelf = self.filled(a=LOW, b=LOW, c=LOW)
        for wrong in (0, -1, 41, GREAT, -GREAT, True, False, None, "", "12", (), (12,), [12]):
            self.assertEqual(caught(lambda: Shelf(limit=wrong)), ("InvalidLimit", wrong))
            self.assertEqual(caught(shelf.set_limit, wrong), ("InvalidLimit", wrong))
            with self.assertRaises(InvalidLimit) as error:
                shelf.limit = wrong
            self.assertIs(error.exception.given, wrong)
            self.assertEqual(shelf.limit, 40)
        for low in (1, 2):
            self.assertEqual(caught(shelf.set_limit, low), ("Full", 3))
            with self.assertRaises(Full) as error:
                shelf.limit = low
            self.assertEqual((error.exception.limit, error.exception.code), (3, "Full"))
        self.assertEqual(shelf.limit, 40)
        self.assertIsNone(shelf.set_limit(value=3))
        self.assertEqual((shelf.limit, shelf.history()), (3, (1, 0)))
        shelf.limit = 5
        self.assertEqual((shelf.limit, shelf.history()), (5, (1, 0)))

    def test_undo_and_redo_do_not_look_at_the_limit(self):
        shelf = self.filled(a=LOW, b=LOW, c=LOW)
        shelf.apply(("drop", "a"), ("drop", "b"))
        shelf.limit = 1
        shelf.undo()
        self.assertEqual((shelf.names(), shelf.limit), (["a", "b", "c"], 1))
        self.assertEqual(caught(shelf.apply, ("enter", "d", LOW)), ("Full", 1))
        self.assertEqual(caught(shelf.set_limit, 2), ("Full", 3))
        self.assertEqual(caught(shelf.set_limit, 41), ("InvalidLimit", 41))
        shelf.apply(("drop", "b"))
        self.assertEqual(caught(shelf.apply, ("enter", "d", LOW)), ("Full", 1))
        shelf.undo()
        shelf.redo()
        self.assertEqual(shelf.names(), ["a", "c"])

    def test_forty_entries(self):
        names = [first + second for first in "abcdefgh" for second in "pqrst"]
        shelf = Shelf(limit=40)
        shelf.apply(*[("enter", name, LOW) for name in names])
        self.assertEqual((len(shelf), shelf.names(), repr(shelf)), (40, sorted(names), "Shelf(40 entries)"))
        self.assertEqual(caught(shelf.apply, ("enter", "zz", LOW)), ("Full", 40))


class TestAsked(Shelves):

    def test_answers_are_those_of_the_questions(self):
        shelf = self.filled(all=Rules([]), low=LOW, put=PUT, take=TAKE, clear=CLEAR)
        for word in CLASSES:
            for rules in ("all", "low"):
                for first in ("put", "take", "clear"):
                    for second in ("put", "take", "clear") if word in PAIRS else (None,):
                        names = [name for name in (first, second) if name is not None]
                        procedures = [shelf.entry(name) for name in names]
                        error = caught(lambda: question_of(word, procedures).ask(shelf.entry(rules)))
                        self.assertEqual(caught(shelf.asked, word, rules, *names), error)
                        if error is None:
                            self.check_answer(shelf.asked(word, rules, *names), question_of(word, procedures),
                                              shelf.entry(rules))

    def check_answer(self, verdict, question, rules):
        right = question.ask(rules)
        self.assertIs(type(verdict), type(right))
        self.assertEqual((verdict.told(), verdict.question.topic), (right.told(), question.topic))
        self.assertEqual(verdict.question.procedures(), question.procedures())
        self.assertTrue(verdict.rules == rules)
        if not right.holds:
            self.assertEqual((verdict.table, verdict.numbers), (right.table, right.numbers))

    def test_a_kept_answer_is_not_computed_again(self):
        shelf = self.filled(low=LOW, put=PUT, take=TAKE)
        self.assertEqual((shelf.computed, shelf.kept()), (0, []))
        first = shelf.asked("never", "low", "put")
        self.assertIs(type(first), No)
        self.assertEqual((shelf.computed, shelf.kept(), shelf.history()), (1, [("never", "low", "put")], (1, 0)))
        self.assertIs(shelf.asked("never", "low", "put"), first)
        self.assertEqual(shelf.computed, 1)
        self.assertIs(type(shelf.asked("twice", "low", "put")), Yes)
        shelf.asked("undone", "low", "put", "take")
        shelf.asked("undone", "low", "take", "put")
        shelf.asked("alike", "low", "put", "put")
        kept = [("alike", "low", "put", "put"), ("never", "low", "put"), ("twice", "low", "put"),
                ("undone", "low", "put", "take"), ("undone", "low", "take", "put")]
        self.assertEqual((shelf.computed, shelf.kept()), (5, kept))
        self.assertIs(type(shelf.kept()), list)
        shelf.kept().append(None)
        self.assertEqual(shelf.kept(), kept)

    def all_asked(self):
        """A shelf with kept answers."""
        shelf = self.filled(low=LOW, put=PUT, take=TAKE, table=Table([]))
        shelf.asked("never", "low", "put")
        shelf.asked("never", "low", "take")
        shelf.asked("undone", "low", "put", "take")
        return shelf

    def test_which_answers_stay_over_steps(self):
        put, take, both = ("never", "low", "put"), ("never", "low", "take"), ("undone", "low", "put", "take")
        same = Procedure([], ("a",), [("insert", "r", [A])])
        for commands, kept in (
            ([("enter", "more", LOW)], [put, take, both]), ([("drop", "table")], [put, take, both]),
            ([("replace", "put", same)], [put, take, both]), ([("replace", "low", Rules([], rows=LOW.rows()))],
                                                             [put, take, both]),
            ([("replace", "put", TAKE)], [take]), ([("replace", "take", PUT)], [put]),
            ([("replace", "low", Rules([]))], []),
            ([("drop", "put")], [take]), ([("drop", "low")], []), ([("rename", "take", "taken")], [put]),
            ([("rename", "low", "high")], []), ([("drop", "put"), ("enter", "put", same)], [put, take, both]),
            ([("drop", "put"), ("enter", "put", TAKE)], [take]),
            ([("rename", "put", "x"), ("rename", "x", "put")], [put, take, both]),
            ([("rename", "put", "x"), ("rename", "take", "put"), ("rename", "x", "take")], []),
            ([("rename", "put", "x"), ("enter", "put", PUT)], [put, take, both]),
            ([("run", "new", "put", "table", [4])], [put, take, both]), ([], [put, take, both]),
        ):
            shelf = self.all_asked()
            shelf.apply(*commands)
            self.assertEqual((shelf.kept(), shelf.computed), (sorted(kept), 3), commands)
        shelf = self.all_asked()
        # Dropped in one step and entered again in another one.
        shelf.apply(("drop", "put"))
        shelf.apply(("enter", "put", PUT))
        self.assertEqual(shelf.kept(), [take])
        shelf.asked("never", "low", "put")
        self.assertEqual((shelf.kept(), shelf.computed), ([put, take], 4))

    def test_failing_commands_leave_the_answers(self):
        shelf = self.all_asked()
        for commands in ([("drop", "put"), ("drop", "zzz")], [None], [("run", "n", "take", "table", [1])]):
            self.assertIsNotNone(caught(shelf.apply, *commands))
            self.assertEqual((len(shelf.kept()), shelf.computed), (3, 3))

    def test_undo_and_redo_drop_all(self):
        shelf = self.all_asked()
        shelf.apply(("drop", "table"))
        self.assertEqual(len(shelf.kept()), 3)
        shelf.undo()
        self.assertEqual((shelf.kept(), shelf.computed), ([], 3))
        shelf.asked("never", "low", "put")
        self.assertEqual((shelf.kept(), shelf.computed), ([("never", "low", "put")], 4))
        shelf.redo()
        self.assertEqual((shelf.kept(), shelf.computed), ([], 4))
        shelf.asked("never", "low", "put")
        self.assertIsNotNone(caught(shelf.redo))
        self.assertEqual((len(shelf.kept()), shelf.computed), (1, 5))

    def test_errors_in_their_order(self):
        late = Procedure([], ["a"], [("clear", ALL, YES), ("insert", "r", (A,))])
        wide = Procedure([], [], [STEP] * 7)
        shelf = self.filled(low=LOW, end=Rules(["end"]), put=PUT, book=BOOK, late=late, wide=wide, table=Table([]))
        for values, error in (
            (("neve", "zzz", "zzz"), ("InvalidName", "neve")),
            (("question", "low", "put"), ("InvalidName", "question")),
            (("Alike", "low", "put", "put"), ("InvalidName", "Alike")),
            (("never", "zzz", "yyy"), ("UnknownName", "zzz")),
            (("never", "put", "yyy"), ("WrongKind", "put")), (("never", "table", "yyy"), ("WrongKind", "table")),
            (("never", "low", "zzz"), ("UnknownName", "zzz")), (("never", "low", "low"), ("WrongKind", "low")),
            (("never", "low", "table", "zzz"), ("WrongKind", "table")),
            (("never", "low", "put", "zzz"), ("UnknownName", "zzz")),
            (("never", "low"), ("InvalidArguments", None)),
            (("never", "low", "put", "put"), ("InvalidArguments", None)),
            (("alike", "low", "put"), ("InvalidArguments", None)), (("woven", "low"), ("InvalidArguments", None)),
            (("alike", "low", "put", "put", "put"), ("InvalidArguments", None)),
            (("alike", "low", "put", "book"), ("ColumnsDiffer", None)),
            (("never", "end", "put"), ("ColumnsDiffer", None)),
            (("woven", "low", "late", "book"), ("ColumnsDiffer", None)),
            (("woven", "end", "put", "late"), ("FailsLate", 1)),
            (("twice", "low", "wide"), ("TooWide", 12)), (("twice", "end", "wide"), ("ColumnsDiffer", None)),
        ):
            self.assertEqual(caught(shelf.asked, *values), error, values)
            self.assertEqual((shelf.kept(), shelf.computed), ([], 0))
        for wrong in NO_NAMES:
            self.assertEqual(caught(shelf.asked, wrong, wrong, wrong), ("InvalidName", wrong))
            self.assertEqual(caught(shelf.asked, "never", wrong, wrong), ("UnknownName", wrong))
            self.assertEqual(caught(shelf.asked, "never", "low", wrong), ("UnknownName", wrong))
            self.assertEqual(caught(shelf.asked, "alike", "low", "put", wrong), ("UnknownName", wrong))
        self.assertIs(type(shelf.asked("twice", "low", "put")), Yes)
        for error in (ColumnsDiffer, FailsLate, TooWide, InvalidName, WrongKind, InvalidArguments):
            self.assertTrue(issubclass(error, TableError))

    def test_equal_entries_under_other_names(self):
        shelf = self.filled(low=LOW, put=PUT, other=PUT)
        shelf.asked("never", "low", "put")
        shelf.asked("never", "low", "other")
        self.assertEqual((shelf.computed, len(shelf.kept())), (2, 2))


class TestTwinsAndEquality(Shelves):

    def test_twin(self):
        shelf = self.filled(low=LOW, put=PUT)
        shelf.apply(("enter", "t", Table([])))
        shelf.undo()
        answer = shelf.asked("never", "low", "put")
        shelf.limit = 7
        twin = shelf.twin()
        self.assertTrue(twin == shelf)
        self.assertIsInstance(twin, Shelf)
        for each in (twin, shelf):
            self.assertEqual((each.names(), each.limit, each.history(), each.kept(), each.computed, each.busy),
                             (["low", "put"], 7, (1, 1), [("never", "low", "put")], 1, False))
        self.assertIs(twin.asked("never", "low", "put"), answer)
        self.assertEqual(twin.computed, 1)
        twin.asked("twice", "low", "put")
        self.assertEqual((len(twin.kept()), twin.computed, len(shelf.kept()), shelf.computed), (2, 2, 1, 1))
        twin.redo()
        twin.limit = 9
        self.assertEqual((twin.names(), shelf.names()), (["low", "put", "t"], ["low", "put"]))
        self.assertEqual((twin.history(), shelf.history(), shelf.limit, len(shelf.kept())), ((2, 0), (1, 1), 7, 1))
        shelf.apply(("drop", "low"))
        self.assertEqual((shelf.history(), twin.history(), twin.names()), ((2, 0), (2, 0), ["low", "put", "t"]))
        shelf.undo()
        shelf.undo()
        self.assertEqual((twin.names(), len(shelf)), (["low", "put", "t"], 0))

    def test_equal(self):
        shelf = self.filled(low=LOW, put=PUT)
        other = Shelf(limit=2)
        other.apply(("enter", "put", Procedure([], ["a"], [("insert", "r", [A])])))
        self.assertFalse(shelf == other)
        self.assertTrue(shelf != other)
        other.apply(("enter", "low", Rules([], rows=LOW.rows())))
        other.asked("twice", "low", "put")
        self.assertTrue(shelf == other)
        self.assertFalse(shelf != other)
        for command in (("rename", "low", "lows"), ("drop", "low"), ("replace", "low", Rules([])),
                        ("replace", "put", TAKE)):
            other = shelf.twin()
            other.apply(command)
            self.assertFalse(shelf == other)
            other.undo()
            self.assertTrue(shelf == other)
        self.assertTrue(Shelf() == Shelf(limit=40))
        for wrong in (None, 0, "", {}, [], {"low": LOW, "put": PUT}):
            self.assertFalse(shelf == wrong)
            self.assertTrue(shelf != wrong)
        self.assertFalse(self.filled(a=Table([])) == self.filled(a=Rules([])))


class TestRandomShelves(Shelves):

    def some_name(self, dice, names, model, kind):
        """Mostly the name of an entry of a kind, if there is one; for no kind, of none."""
        if dice.random() < 0.03:
            return dice.choice(NO_NAMES)
        good = [name for name in names if (name not in model.entries if kind is None else name in model.entries
                                           and kind in ("any", kind_of(model.entries[name])))]
        return dice.choice(good if good and dice.random() < 0.8 else names)

    def some_command(self, dice, names, model):
        def name(kind):
            return self.some_name(dice, names, model, kind)

        word = dice.choice(["enter", "enter", "replace", "run", "run", "drop", "rename"])
        entry = dice.choice(ENTRIES)
        if word == "enter":
            return (word, name(None), entry)
        if word == "replace":
            return (word, name(kind_of(entry)), entry)
        if word == "run":
            numbers = dice.choice([[], [1], [2], [dice.randint(0, 9)], [1, 2], [True], None, "1"])
            return (word, name(None), name("procedure"), name("table"), numbers)
        return ("drop", name("any")) if word == "drop" else ("rename", name("any"), name(None))

    def some_question(self, dice, names, model):
        word = dice.choice([*CLASSES, "x"])
        many = 1 + (word in PAIRS) if dice.random() < 0.9 else dice.randint(0, 3)
        return [word, self.some_name(dice, names, model, "rules"),
                *[self.some_name(dice, names, model, "procedure") for _ in range(many)]]

    def test_long_histories(self):
        seen, kept = {}, 0
        for seed in range(60):
            dice = random.Random(seed)
            names = list("abcdefgh"[:dice.randint(3, 8)])
            limit = dice.randint(2, 9)
            shelf, model = Shelf(limit=limit), Model(limit)
            for _ in range(120):
                way = dice.random()
                if way < 0.6:
                    commands = [self.some_command(dice, names, model) for _ in range(dice.choice([0, 1, 1, 1, 2, 3]))]
                    if dice.random() < 0.03:
                        commands.insert(dice.randrange(len(commands) + 1), dice.choice([None, ("drop",), [], "x"]))
                    refused, _ = self.do_both(shelf, model, "apply", *commands)
                elif way < 0.72:
                    refused, _ = self.do_both(shelf, model, dice.choice(["undo", "undo", "redo"]))
                else:
                    values = self.some_question(dice, names, model)
                    refused, right = self.do_both(shelf, model, "asked", *values)
                    if refused is None:
                        self.assertEqual(shelf.asked(*values).told(), right)
                kept = max(kept, len(model.answers))
                code = refused[0] if refused else None
                seen[code] = seen.get(code, 0) + 1
        for code in (None, "NothingLeft", "UnknownName", "WrongKind", "DuplicateName", "InvalidName", "Full",
                     "InvalidCommand", "ColumnsDiffer", "InvalidArguments", "Failed"):
            self.assertGreater(seen.get(code, 0), 2, seen)
        self.assertGreater(kept, 2)

    def test_alike_is_among_the_questions(self):
        self.assertEqual(Alike(PUT, PUT).topic, "alike")
        for error in (DuplicateName, Failed, Full, UnknownName):
            self.assertTrue(issubclass(error, (TableError, Missing)))


if __name__ == "__main__":
    unittest.main()
