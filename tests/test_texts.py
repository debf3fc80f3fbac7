"""Tests of lookedrows.texts, with a writer and a reader of the tests' own."""

import random
import re
import unittest

from helpers import (ALPHABET, WRONG, Maker, condition_of, first_wrong, is_list, right_name, right_statement, some_edit,
                     tells_of, value_of)
from lookedrows.errors import InvalidLine, NotCarried
from lookedrows.procedures import Procedure
from lookedrows.rules import Rules
from lookedrows.tables import Table
from lookedrows.texts import procedure_text, read_procedure, read_rules, read_table, rules_text, table_text
from players import Worker, some_rules

GREAT = 10 ** 30
A, B, ONE = ("name", "a"), ("name", "b"), ("number", 1)
KEY, END, NEXT_KEY, NEXT_END = ("own", "key"), ("own", "end"), ("next", "key"), ("next", "end")
YES, ALL = ("true",), (None, None)


# ---- writing, said once more

def told_value(v):
    if v[0] == "plus":
        return told_value(v[1]) + (" + " if v[2] >= 0 else " - ") + str(v[2]).lstrip("-")
    return {"field": "{1}.{2}", "own": "own.{1}", "next": "next.{1}"}.get(v[0], "{1}").format(*v)


def told_condition(c):
    match c:
        case ("true",):
            return "true"
        case ("found", r):
            return "found " + r
        case ("not", d):
            return "not " + told_condition(d)
        case ("and" | "or" as word, d, e):
            return "(" + told_condition(d) + " " + word + " " + told_condition(e) + ")"
    return told_value(c[1]) + {"atmost": " <= ", "below": " < ", "same": " = "}[c[0]] + told_value(c[2])


def told_values(values):
    return ", ".join(map(told_value, values)) if values else "-"


def told_range(bounds):
    return "from {} below {}".format(*["-" if v is None else told_value(v) for v in bounds])


def told_lines(statements):
    lines = []
    for statement in statements:
        match statement:
            case ("find", r, way, bounds, c):
                lines.append(f"find {r} {way} {told_range(bounds)} where {told_condition(c)}")
            case ("insert", r, values):
                lines.append(f"insert {r} {told_values(values)}")
            case ("set", r, column, v):
                lines.append(f"set {r} {column} {told_value(v)}")
            case ("clear", bounds, c):
                lines.append(f"clear {told_range(bounds)} where {told_condition(c)}")
            case ("change", bounds, c, column, v):
                lines.append(f"change {told_range(bounds)} where {told_condition(c)} set {column} {told_value(v)}")
            case ("move", v, k):
                lines.append(f"move {told_value(v)} {k}")
            case ("return", values):
                lines.append(f"return {told_values(values)}")
            case ("if", c, first, second):
                lines += [f"if {told_condition(c)}", *told_lines(first), "else", *told_lines(second), "end"]
            case _:
                lines.append(" ".join(statement))
    return lines


def told(lines):
    return "".join(line + "\n" for line in lines)


def told_procedure(columns, arguments, statements):
    return told([" ".join(["procedure", *columns]), " ".join(["arguments", *arguments]), *told_lines(statements)])


def told_rules(columns, rows, nexts):
    return told([" ".join(["rules", *columns]), *["row " + told_condition(c) for c in rows],
                 *["next " + told_condition(c) for c in nexts]])


def told_table(columns, rows):
    return told([" ".join(["table", *columns]), *[" ".join(map(str, row)) for row in sorted(rows)]])


# ---- reading, said once more: what a text is of, or the index of its first wrong line

class Wrong(Exception):
    """A line is wrong."""

    def __init__(self, index):
        super().__init__(index)
        self.index = index


def require(good, index):
    if not good:
        raise Wrong(index)


def lines_of(text):
    """The lines with their newlines."""
    return re.findall("[^\n]*\n|[^\n]+$", text)


def names_of(lines, index, word, most):
    require(index < len(lines), index)
    found = re.fullmatch(rf"{word}((?: [a-z]+)*)\n", lines[index])
    require(found, index)
    names = found[1].split()
    require(len(names) <= most and all(map(right_name, names)) and len(set(names)) == len(names), index)
    return names


def rules_of(text):
    lines = lines_of(text)
    columns = names_of(lines, 0, "rules", 3)
    rules = {"row": [], "next": []}
    for index, line in enumerate(lines[1:], 1):
        found = re.fullmatch(r"(row|next) (.*)\n", line)
        require(found, index)
        c = condition_of(found[2])
        require(c is not None and "found" not in repr(c), index)
        sides = ("number", "own") if found[1] == "row" else ("number", "own", "next")
        require(tells_of(c, sides, ["key", *columns], ()), index)
        require(found[1] == "next" or not rules["next"], index)
        rules[found[1]].append(c)
        require(len(rules[found[1]]) <= 4, index)
    try:
        return Rules(columns, rows=rules["row"], nexts=rules["next"])
    except NotCarried:
        raise Wrong(len(lines)) from None


def table_of(text):
    lines = lines_of(text)
    columns = names_of(lines, 0, "table", 3)
    rows = []
    for index, line in enumerate(lines[1:], 1):
        found = re.fullmatch(r"(?:0|-?[1-9][0-9]*)(?: (?:0|-?[1-9][0-9]*)){%d}\n" % len(columns), line)
        require(found, index)
        rows.append(tuple(map(int, line.split())))
        require(len(rows) == 1 or rows[-2][0] < rows[-1][0], index)
    return Table(columns, rows)


def range_of(text):
    """The range with a text: of all ways to read it, the one that has two values."""
    words = text.split(" ")
    found = []
    for at in range(1, len(words)):
        if words[0] == "from" and words[at] == "below":
            sides = [" ".join(words[1:at]), " ".join(words[at + 1:])]
            if all(side == "-" or value_of(side) is not None for side in sides):
                found.append(tuple(None if side == "-" else value_of(side) for side in sides))
    return found[0] if len(found) == 1 else "none"


def values_of(text):
    if text == "-":
        return ()
    return tuple(value_of(part) for part in text.split(", "))


def statement_of(line):
    """The statement with a line, or None; if there is no such statement, what it tells may be wrong in any way."""
    forms = (
        (r"find ([a-z]+) (first|last) (from .*) where (.*)",
         lambda r, way, pair, c: ("find", r, way, range_of(pair), condition_of(c))),
        (r"step ([a-z]+) (next|prior) ([a-z]+)", lambda r, way, s: ("step", r, way, s)),
        (r"insert ([a-z]+) (.*)", lambda r, values: ("insert", r, values_of(values))),
        (r"delete ([a-z]+)", lambda r: ("delete", r)),
        (r"set ([a-z]+) ([a-z]+) (.*)", lambda r, column, v: ("set", r, column, value_of(v))),
        (r"clear (from .*) where (.*)", lambda pair, c: ("clear", range_of(pair), condition_of(c))),
        (r"change (from .*) where (.*) set ([a-z]+) (.*)",
         lambda pair, c, column, v: ("change", range_of(pair), condition_of(c), column, value_of(v))),
        (r"move (.*) (0|-?[1-9][0-9]*)", lambda v, k: ("move", value_of(v), int(k))),
        (r"fail ([a-z]+)", lambda word: ("fail", word)),
        (r"return (.*)", lambda values: ("return", values_of(values))),
        (r"if (.*)", lambda c: ("if", condition_of(c), (), ())),
    )
    for form, make in forms:
        found = re.fullmatch(form + "\n", line)
        if found:
            return make(*found.groups())
    return None


def procedure_of(text):
    lines = lines_of(text)
    columns = names_of(lines, 0, "procedure", 3)
    arguments = names_of(lines, 1, "arguments", 3)
    many = 0
    # Each list that is being read, with what it is the list of: the second part of an if has the first one with it.
    lists = [("own", None, [])]
    for index, line in enumerate(lines[2:], 2):
        kind, c, statements = lists[-1][:3]
        if line == "else\n":
            require(kind == "first", index)
            lists[-1] = ("second", c, [], tuple(statements))
        elif line == "end\n":
            require(kind == "second", index)
            first = lists.pop()[3]
            lists[-1][2].append(("if", c, first, tuple(statements)))
        else:
            statement = statement_of(line)
            many += 1
            require(statement is not None and right_statement(statement, ["key", *columns], arguments), index)
            require(many <= 24 and len(lists) <= 3, index)
            require(len(lists) > 1 or len(statements) < 12, index)
            if statement[0] == "if":
                lists.append(("first", statement[1], []))
            else:
                statements.append(statement)
    require(len(lists) == 1, len(lines))
    return Procedure(columns, arguments, lists[0][2])


KINDS = {
    "rules": (rules_text, read_rules, rules_of), "table": (table_text, read_table, table_of),
    "procedure": (procedure_text, read_procedure, procedure_of),
}


# ---- what is written and read

def some_table(dice):
    columns = dice.sample(["end", "price", "a", "below"], dice.randint(0, 3))
    maker = Maker(dice, columns=columns)
    low = dice.choice([-5, -GREAT, GREAT ** 3])
    rows = maker.rows(dice.randint(0, 6), low, low + 20)
    return Table(columns, rows)


# Names that are words of the texts.
WORDS = ("first", "last", "from", "below", "column", "end", "if", "else", "find", "step", "move", "fail", "prior",
         "delete", "insert", "clear", "change", "return", "row", "rules", "table", "entry", "in")


def some_procedure(dice):
    columns = dice.choice([(), ("end",), ("below", "from"), ("end", "price", "a")])
    arguments = dice.sample(["a", "b", "below", "from", "if"], dice.randint(0, 3))
    kind = dice.choice([Maker, Worker])
    maker = kind(dice, columns=columns, arguments=tuple(arguments), names=tuple(dice.sample(WORDS, 3)))
    if kind is Worker:
        return maker.procedure(24, 5)
    return Procedure(columns, arguments, maker.body(dice.randint(0, 9)))


def some_thing(dice):
    """A kind and an entry of it."""
    kind = dice.choice(["rules", "table", "procedure", "procedure"])
    if kind == "rules":
        return kind, some_rules(dice, dice.choice([(), ("end",), ("x", "y")]))
    return kind, some_table(dice) if kind == "table" else some_procedure(dice)


class Texts(unittest.TestCase):

    def check_text(self, kind, thing, text):
        """What is written, and that it is read back to the same."""
        write, read, again = KINDS[kind]
        self.assertEqual(write(thing), text)
        self.assertIs(type(write(thing)), str)
        back = read(text)
        self.assertIs(type(back), type(thing))
        self.assertTrue(back == thing, text)
        self.assertEqual(write(back), text)
        self.assertTrue(again(text) == thing, text)

    def check_any(self, kind, text):
        """A text that may be right or wrong, against the reader of the tests' own; whether it is right."""
        write, read, again = KINDS[kind]
        try:
            thing = again(text)
        except Wrong as wrong:
            self.check_wrong(kind, text, wrong.index)
            return False
        self.check_text(kind, thing, text)
        return True

    def check_wrong(self, kind, text, index):
        with self.assertRaises(InvalidLine, msg=text) as caught:
            KINDS[kind][1](text)
        self.assertEqual((caught.exception.index, caught.exception.code), (index, "InvalidLine"), text)


class TestWriting(Texts):

    def test_rules(self):
        for columns, rows, nexts, text in (
            ([], [], [], "rules\n"), (["end", "x"], [], [], "rules end x\n"),
            (["end"], [("below", KEY, END)], [("atmost", END, NEXT_KEY)],
             "rules end\nrow own.key < own.end\nnext own.end <= next.key\n"),
            ([], [YES, YES], [YES], "rules\nrow true\nrow true\nnext true\n"),
            ([], [("not", ("or", ("same", KEY, ("number", -GREAT)), ("atmost", ("plus", KEY, -3), ONE)))], [],
             f"rules\nrow not (own.key = -{GREAT} or own.key - 3 <= 1)\n"),
        ):
            self.check_text("rules", Rules(columns, rows=rows, nexts=nexts), text)
        for seed in range(200):
            rules = some_rules(random.Random(seed), ("end", "x")[:seed % 3])
            text = told_rules(rules.columns[1:], rules.rows(), rules.nexts())
            self.check_text("rules", rules, text)

    def test_tables(self):
        for columns, rows, text in (
            ([], [], "table\n"), (["end"], [], "table end\n"), ([], [(0,), (-1,)], "table\n-1\n0\n"),
            (["end"], [(5, -7), (1, 0)], "table end\n1 0\n5 -7\n"),
            (["a", "b", "c"], [(GREAT ** 20, 0, -GREAT ** 20, 7)], f"table a b c\n{GREAT ** 20} 0 -{GREAT ** 20} 7\n"),
        ):
            self.check_text("table", Table(columns, rows), text)
        for seed in range(200):
            table = some_table(random.Random(seed))
            self.check_text("table", table, told_table(table.columns[1:], table.rows()))

    def test_a_table_of_many_rows_and_digits(self):
        rows = [(at, 10 ** at) for at in range(60)]
        self.check_text("table", Table(["end"], rows), told_table(["end"], rows))
        far = 10 ** 800
        self.check_text("table", Table([], [(far,), (-far,), (far + 1,)]), f"table\n-{far}\n{far}\n{far + 1}\n")

    def test_procedures(self):
        field = ("field", "r", "end")
        for arguments, statements, lines in (
            ([], [], []), (["a", "b"], [], []),
            (["a", "b"], [("find", "r", "first", (None, B), ("below", A, END))],
             ["find r first from - below b where a < own.end"]),
            (["a"], [("find", "r", "last", (("plus", A, -1), ("plus", A, 1)), YES)],
             ["find r last from a - 1 below a + 1 where true"]),
            ([], [("step", "r", "next", "s"), ("step", "s", "prior", "r")], ["step r next s", "step s prior r"]),
            (["a"], [("insert", "r", (A, ("plus", field, -2)))], ["insert r a, r.end - 2"]),
            ([], [("delete", "r"), ("set", "r", "end", ("number", -5))], ["delete r", "set r end -5"]),
            (["a"], [("clear", (A, None), ("found", "r"))], ["clear from a below - where found r"]),
            (["a"], [("change", ALL, YES, "end", ("plus", KEY, GREAT))],
             [f"change from - below - where true set end own.key + {GREAT}"]),
            (["a"], [("move", A, -1), ("move", ("plus", A, -2), 3), ("move", ("number", -4), 0)],
             ["move a -1", "move a - 2 3", "move -4 0"]),
            ([], [("fail", "busy"), ("return", ()), ("return", (ONE, field, ("number", -1), ("number", 0)))],
             ["fail busy", "return -", "return 1, r.end, -1, 0"]),
            ([], [("if", ("found", "r"), (), ())], ["if found r", "else", "end"]),
            ([], [("if", YES, (("if", YES, (("if", YES, (), ()),), ()),), (("fail", "x"),))],
             ["if true", "if true", "if true", "else", "end", "else", "end", "else", "fail x", "end"]),
        ):
            text = told(["procedure end", " ".join(["arguments", *arguments]), *lines])
            self.check_text("procedure", Procedure(["end"], arguments, statements), text)
            self.assertEqual(told_procedure(["end"], arguments, statements), text)

    def test_random_procedures(self):
        seen = {}
        for seed in range(500):
            procedure = some_procedure(random.Random(seed))
            text = told_procedure(procedure.columns[1:], procedure.arguments, procedure.statements())
            self.check_text("procedure", procedure, text)
            for line in text.split("\n")[2:-1]:
                seen[line.split(" ")[0]] = seen.get(line.split(" ")[0], 0) + 1
        self.assertEqual(len(seen), 13)
        self.assertGreater(min(seen.values()), 30, seen)

    def test_names_like_words_of_the_text(self):
        for word in WORDS:
            if not right_name(word):
                continue
            name, field = ("name", word), ("field", word, "end")
            statements = [
                ("find", word, "first", (name, name), ("below", field, name)), ("step", word, "prior", word),
                ("find", word, "last", (None, name), ("found", word)), ("find", word, "last", (name, None), YES),
                ("insert", word, (name, ("plus", name, -1))), ("delete", word), ("set", word, "end", name),
                ("clear", (("plus", name, 1), name), ("same", name, name)), ("move", name, -1), ("fail", word),
                ("change", (name, ("plus", field, -1)), ("found", word), "end", field), ("return", (name, field)),
            ]
            procedure = Procedure(["end"], [word], statements)
            self.check_text("procedure", procedure, told_procedure(["end"], [word], statements))
            other = Procedure([word], [word], [("set", word, word, ("field", word, word)), (
                "change", (name, name), ("same", ("own", word), name), word, ("own", word))])
            self.check_text("procedure", other, told_procedure([word], [word], other.statements()))

    def test_lists_are_told_as_tuples(self):
        one = Procedure(["end"], ["a"], [("if", YES, [("insert", "r", [A, A])], [("return", [])])])
        self.check_text("procedure", one, "procedure end\narguments a\nif true\ninsert r a, a\nelse\nreturn -\nend\n")

    def test_by_name(self):
        rules, table, procedure = Rules([]), Table([]), Procedure([], [], [])
        self.assertEqual(rules_text(rules=rules), "rules\n")
        self.assertEqual(table_text(table=table), "table\n")
        self.assertEqual(procedure_text(procedure=procedure), "procedure\narguments\n")
        self.assertEqual(read_rules(text="rules\n"), rules)
        self.assertEqual(read_table(text="table\n"), table)
        self.assertEqual(read_procedure(text="procedure\narguments\n"), procedure)


def some_break(dice, text):
    """A text that differs from another one in one of many ways."""
    lines = lines_of(text)
    at = dice.randrange(len(lines)) if lines else 0
    words = lines[at].split(" ") if lines else []
    way = dice.randrange(12)
    if way == 0 or not lines:
        return some_edit(dice, text)
    if way == 1:
        other = dice.randrange(len(lines))
        lines[at], lines[other] = lines[other], lines[at]
    if way == 2:
        lines.insert(at, dice.choice(["\n", "else\n", "end\n", "row true\n", "next true\n", "fail x\n", "0\n", "1 2\n",
                                      "if true\n", "table\n", "entry a\n", lines[dice.randrange(len(lines))]]))
    if way == 3:
        del lines[at]
    if way == 4:
        return text[:dice.randrange(len(text) + 1)]
    if way == 5:
        return text[:-1]
    if way == 6:
        lines[at] = lines[at].replace(" ", "  ", 1)
    if way == 7:
        lines[at] = lines[at][:-1] + " \n"
    if way == 8:
        lines[at] = " " + lines[at]
    if way == 9 and len(words) > 1:
        place = dice.randrange(len(words) - 1)
        words[place] = dice.choice(["a", "b", "r", "key", "own.end", "next.key", "own.key", "-", "0", "-0", "01", "x",
                                    "true", "<", "from", "below", "+", "1"])
        lines[at] = " ".join(words)
    if way == 10 and len(words) > 1:
        del words[dice.randrange(len(words) - 1)]
        lines[at] = " ".join(words)
    if way == 11:
        return some_edit(dice, text, ALPHABET)
    return "".join(lines)


class TestBroken(Texts):

    def test_random_breaks(self):
        seen = {}
        for seed in range(6000):
            dice = random.Random(seed)
            kind, thing = some_thing(dice)
            text = some_break(dice, KINDS[kind][0](thing))
            if dice.random() < 0.2:
                text = some_break(dice, text)
            right = self.check_any(kind, text)
            seen[kind, right] = seen.get((kind, right), 0) + 1
        self.assertEqual(len(seen), 6)
        self.assertGreater(min(seen.values()), 40, seen)

    def test_no_text_and_the_empty_text(self):
        for kind in KINDS:
            self.check_wrong(kind, "", 0)
            for wrong in (None, True, False, 0, 7, (), [], ["rules"], ("table",), [kind + "\n"], [None]):
                self.check_wrong(kind, wrong, 0)
            for text in ("\n", " ", kind, " " + kind + "\n", kind.upper() + "\n", kind + " \n", kind + "\n\n",
                         kind + " key\n", kind + " a a\n", kind + " a b c d\n", kind + " A\n",
                         kind + "  a\n", "\n" + kind):
                self.check_any(kind, text)
        for kind in KINDS:
            for other in KINDS:
                if other != kind:
                    self.check_wrong(kind, f"{other}\narguments\n", 0)

    def test_rules(self):
        good = "row own.key < own.end\n"
        for text, index in (
            ("rules end\n" + good * 4, None), ("rules end\n" + good * 5, 5), ("rules end\n" + good * 6, 5),
            ("rules end\n" + "next true\n" * 4, None), ("rules end\n" + "next true\n" * 5, 5),
            ("rules end\n" + good * 4 + "next true\n" * 5, 9), ("rules end\nnext true\n" + good, 2),
            ("rules end\n" + good + "next true\n" + good, 3), ("rules end\nrow next.key < own.key\n", 1),
            ("rules end\nrow a < own.key\n", 1), ("rules end\nrow found r\n", 1),
            ("rules end\nrow r.end < own.key\n", 1),
            ("rules end\nrow own.price < own.key\n", 1), ("rules end\nrow\n", 1), ("rules end\nrow \n", 1),
            ("rules end\nrow own.key < own.end", 1), ("rules end\nrules end\n", 1),
            ("rules end\nnext not own.end = next.end\n", 2), ("rules end\nrow true\nnext not own.end = next.end\n", 3),
            ("rules end\nnext not own.end = next.end\nnext tru\n", 2),
            ("rules end\nnext not own.end = next.end\nnext true", 2),
            ("rules end\nrow true\nnext next.key <= own.key + 3\nnext true\n", 4),
        ):
            if index is None:
                self.assertTrue(self.check_any("rules", text), text)
            else:
                self.check_wrong("rules", text, index)

    def test_tables(self):
        for text, index in (
            ("table end\n1 2\n1 3\n", 2), ("table end\n1 2\n0 3\n", 2), ("table end\n1 2\n2 3\n0\n", 3),
            ("table end\n1\n", 1), ("table end\n1 2 3\n", 1), ("table end\n01 2\n", 1), ("table end\n-0 2\n", 1),
            ("table end\n+1 2\n", 1), ("table end\n1 2", 1), ("table end\n1  2\n", 1), ("table end\n1 2 \n", 1),
            ("table end\n1 -\n", 1), ("table end\n1 --2\n", 1), ("table end\n1 a\n", 1), ("table end\n1 1.0\n", 1),
            ("table end\n1 2\n\n", 2), ("table\n\n", 1), ("table\n5\n4\n", 2), ("table\n1e3\n", 1), ("table\n1_0\n", 1),
            ("table end", 0), ("table\n5\n6", 2), ("table key\n5\n", 0), ("table\n-5\n-6\n", 2),
        ):
            self.check_wrong("table", text, index)

    def test_procedures(self):
        head = "procedure end\narguments a\n"
        deep = "if true\n" * 3
        for lines, index in (
            ("else\n", 2), ("end\n", 2), ("if true\n", 3), ("if true\nelse\n", 4), ("if true\nend\n", 3),
            ("if true\nelse\nelse\nend\n", 4), ("if true\nelse\nend\nend\n", 5), ("if true\nelse\nend\nelse\n", 5),
            (deep + "fail x\n", 5), (deep + "if true\n", 5), (deep + "else\nfail x\n", 6), (deep + "else\nend\n", 7),
            ("fail x\n" * 12, None), ("fail x\n" * 13, 14), ("fail x\n" * 14, 14),
            ("if true\n" + "fail x\n" * 23 + "else\nend\n", None), ("if true\n" + "fail x\n" * 24 + "else\nend\n", 26),
            ("fail x\n" * 11 + "if true\n" + "fail x\n" * 12 + "else\nend\n", None),
            ("fail x\n" * 11 + "if true\n" + "fail x\n" * 13 + "else\nend\n", 26),
            ("fail x\n" * 12 + "if true\nelse\nend\n", 14), ("if true\nelse\n" + "fail x\n" * 24 + "end\n", 27),
            ("insert r a\n", 2), ("insert r a, a, a\n", 2), ("insert r -\n", 2), ("insert r a,a\n", 2),
            ("return a, a, a, a\n", None), ("return a, a, a, a, a\n", 2), ("return\n", 2), ("return \n", 2),
            ("return -\n", None), ("return -, a\n", 2), ("return own.end\n", 2), ("return b\n", 2),
            ("delete own\n", 2), ("delete r s\n", 2), ("delete\n", 2), ("fail key\n", 2), ("fail none\n", None),
            ("set r key a\n", 2), ("set r price a\n", 2), ("set r end own.end\n", 2), ("set r end\n", 2),
            ("move a\n", 2), ("move a 01\n", 2), ("move a +1\n", 2), ("move a -0\n", 2), ("move a 1 2\n", 2),
            (f"move a {GREAT}\n", None), (f"move a {GREAT + 1}\n", 2), (f"move a -{GREAT * 10}\n", 2),
            ("find r middle from - below - where true\n", 2), ("find r first from below where true\n", 2),
            ("find r first from - below - where\n", 2), ("find r first where true\n", 2),
            ("find r first from own.key below - where true\n", 2), ("find r first from - below b where true\n", 2),
            ("clear from - below - where next.key < a\n", 2), ("clear from - below - where own.end < a\n", None),
            ("clear from -  below - where true\n", 2), ("clear from - below - where true set end a\n", 2),
            ("change from - below - where true set end own.key\n", None), ("change from - below - where true\n", 2),
            ("change from - below - where true set key a\n", 2), ("change from - below - where true set end\n", 2),
            ("if own.end < a\nelse\nend\n", 2), ("if true\nelse \nend\n", 3), ("step r behind s\n", 2),
            ("step r next\n", 2), ("step r next s t\n", 2), ("arguments a\n", 2), ("Fail x\n", 2), ("fail x", 2),
        ):
            if index is None:
                self.assertTrue(self.check_any("procedure", head + lines), lines)
            else:
                self.check_wrong("procedure", head + lines, index)
        for text, index in (("procedure end\n", 1), ("procedure end", 0), ("procedure\narguments", 1),
                            ("procedure\narguments a a\n", 1), ("procedure\narguments a b c d\n", 1),
                            ("procedure\nfail x\n", 1), ("procedure\narguments key\n", 1), ("arguments a\n", 0),
                            ("procedure a\narguments a\n", None)):
            if index is None:
                self.assertTrue(self.check_any("procedure", text))
            else:
                self.check_wrong("procedure", text, index)

    def test_the_readers_of_the_tests(self):
        """The reader of the tests' own knows right and wrong things, too."""
        self.assertIsNone(statement_of("nothing\n"))
        self.assertEqual(range_of("from below below below"), (("name", "below"), ("name", "below")))
        self.assertTrue(is_list([]) and first_wrong(WRONG[0]) == ())


if __name__ == "__main__":
    unittest.main()
