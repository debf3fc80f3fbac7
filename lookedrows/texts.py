"""Texts: rules, tables and procedures, line by line."""

from lookedrows.conditions import condition_text, read_condition
from lookedrows.errors import InvalidLine, InvalidText, NotCarried
from lookedrows.lines import first_line, lines_of, read_line
from lookedrows.procedures import MOST_ARGUMENTS, Procedure
from lookedrows.rules import MOST_RULES, NEXT_FORMS, ROW_FORMS, Rules, is_rule
from lookedrows.scopes import Scope
from lookedrows.statements import DEEPEST_STATEMENT, MOST_IN_ALL, MOST_OWN, is_statement
from lookedrows.tables import Table
from lookedrows.values import MOST_COLUMNS, are_names, read_integer


def text_of(lines):
    """The text with some lines."""
    return "".join([f"{line}\n" for line in lines])


def all_lines(text):
    """The list of the lines of a text; raises InvalidLine(0) for what is none.

    A last line that has no newline is told with one behind it, so that it is of no form.
    """
    if not isinstance(text, str):
        raise InvalidLine(0)
    lines = text.split("\n")
    last = lines.pop()
    return [*lines, f"{last}\n"] if last else lines


def _head(word, names):
    """The line of a word and some names."""
    return " ".join([word, *names])


def _read_head(lines, index, word, most):
    """The names behind a word in a line, at most so many; raises InvalidLine(index)."""
    if index == len(lines):
        raise InvalidLine(index)
    words = lines[index].split(" ")
    if words[0] != word or not are_names(words[1:], most):
        raise InvalidLine(index)
    return words[1:]


def rules_text(rules):
    """The text of rules."""
    return text_of([_head("rules", rules.columns[1:]),
                    *[f"row {condition_text(rule)}" for rule in rules.rows()],
                    *[f"next {condition_text(rule)}" for rule in rules.nexts()]])


def read_rules(text):
    """The rules with a text; raises InvalidLine(index)."""
    return rules_in(all_lines(text))


def rules_in(lines):
    """The rules with some lines; raises InvalidLine(index)."""
    columns = _read_head(lines, 0, "rules", MOST_COLUMNS)
    layout = ("key", *columns)
    rows, nexts = [], []
    for index in range(1, len(lines)):
        word, _, rest = lines[index].partition(" ")
        if word == "row" and not nexts:
            rows.append(_read_rule(rest, ROW_FORMS, layout, index))
        elif word == "next":
            nexts.append(_read_rule(rest, NEXT_FORMS, layout, index))
        else:
            raise InvalidLine(index)
        if len(rows) > MOST_RULES or len(nexts) > MOST_RULES:
            raise InvalidLine(index)
    try:
        return Rules(columns, rows=rows, nexts=nexts)
    except NotCarried:
        raise InvalidLine(len(lines)) from None


def _read_rule(text, forms, layout, index):
    """The rule with a text; raises InvalidLine(index)."""
    try:
        rule = read_condition(text)
    except InvalidText:
        raise InvalidLine(index) from None
    if not is_rule(rule, forms, layout):
        raise InvalidLine(index)
    return rule


def table_text(table):
    """The text of a table."""
    rows = [" ".join([str(cell) for cell in row]) for row in table.rows()]
    return text_of([_head("table", table.columns[1:]), *rows])


def read_table(text):
    """The table with a text; raises InvalidLine(index)."""
    return table_in(all_lines(text))


def table_in(lines):
    """The table with some lines; raises InvalidLine(index)."""
    columns = _read_head(lines, 0, "table", MOST_COLUMNS)
    rows = []
    for index in range(1, len(lines)):
        # Here integers may have any number of digits.
        row = tuple([read_integer(word, len(word)) for word in lines[index].split(" ")])
        if None in row or len(row) != len(columns) + 1 or (rows and row[0] <= rows[-1][0]):
            raise InvalidLine(index)
        rows.append(row)
    return Table(columns, rows)


def procedure_text(procedure):
    """The text of a procedure."""
    return text_of([_head("procedure", procedure.columns[1:]), _head("arguments", procedure.arguments),
                    *lines_of(procedure.statements())])


def read_procedure(text):
    """The procedure with a text; raises InvalidLine(index)."""
    return procedure_in(all_lines(text))


def procedure_in(lines):
    """The procedure with some lines; raises InvalidLine(index)."""
    columns = _read_head(lines, 0, "procedure", MOST_COLUMNS)
    arguments = _read_head(lines, 1, "arguments", MOST_ARGUMENTS)
    body = Body(Scope(("key", *columns), arguments))
    for index in range(2, len(lines)):
        if not body.takes(lines[index]):
            raise InvalidLine(index)
    if body.has_open_if():
        raise InvalidLine(len(lines))
    return Procedure(columns, arguments, body.statements())


class Body:
    """The statements of a procedure as they are read, line by line."""

    def __init__(self, scope):
        self._scope = scope
        self._many = 0
        # The lists into which statements are read now: the procedure's own one, then those of the ifs that are open.
        self._lists = [[]]
        # For each open if, its condition and its first statements, if they are complete.
        self._ifs = []

    def has_open_if(self):
        """Whether an if has no end yet."""
        return len(self._ifs) > 0

    def statements(self):
        """The list of the statements of the procedure's own list."""
        return list(self._lists[0])

    def takes(self, line):
        """Takes the next line, and tells whether it may stand there."""
        if line == "else":
            return self._takes_else()
        if line == "end":
            return self._takes_end()
        return self._takes_statement(line)

    def _takes_else(self):
        """As takes, for the line behind the first statements of an if."""
        if not self._ifs or len(self._ifs[-1]) == 2:
            return False
        self._ifs[-1] = (self._ifs[-1][0], tuple(self._lists[-1]))
        self._lists[-1] = []
        return True

    def _takes_end(self):
        """As takes, for the line behind the second statements of an if."""
        if not self._ifs or len(self._ifs[-1]) == 1:
            return False
        condition, first = self._ifs.pop()
        second = self._lists.pop()
        self._lists[-1].append(("if", condition, first, tuple(second)))
        return True

    def _takes_statement(self, line):
        """As takes, for the line of a statement."""
        self._many += 1
        if len(self._lists[0]) == MOST_OWN or self._many > MOST_IN_ALL or len(self._ifs) == DEEPEST_STATEMENT:
            return False
        try:
            statement = read_line(line)
        except InvalidText:
            return False
        if not is_statement(statement, self._scope) or first_line(statement) != line:
            return False
        if statement[0] == "if":
            self._ifs.append((statement[1],))
            self._lists.append([])
        else:
            self._lists[-1].append(statement)
        return True
