"""Lines: the texts of statements, line by line."""

from lookedrows.conditions import condition_text, read_condition
from lookedrows.errors import InvalidText
from lookedrows.values import MOST_DIGITS, read_integer, read_value, value_text


def _range_text(bounds):
    """The text of a range."""
    low, high = ["-" if bound is None else value_text(bound) for bound in bounds]
    return f"from {low} below {high}"


def _values_text(values):
    """The text of some values."""
    return ", ".join([value_text(value) for value in values]) or "-"


def _find_line(statement):
    _, name, end, bounds, condition = statement
    return f"find {name} {end} {_range_text(bounds)} where {condition_text(condition)}"


def _plain_line(statement):
    return " ".join(statement)


def _insert_line(statement):
    return f"insert {statement[1]} {_values_text(statement[2])}"


def _set_line(statement):
    _, name, column, value = statement
    return f"set {name} {column} {value_text(value)}"


def _clear_line(statement):
    return f"clear {_range_text(statement[1])} where {condition_text(statement[2])}"


def _change_line(statement):
    _, bounds, condition, column, value = statement
    return f"change {_range_text(bounds)} where {condition_text(condition)} set {column} {value_text(value)}"


def _move_line(statement):
    return f"move {value_text(statement[1])} {statement[2]}"


def _return_line(statement):
    return f"return {_values_text(statement[1])}"


def _if_line(statement):
    return f"if {condition_text(statement[1])}"


WRITERS = {
    "find": _find_line, "step": _plain_line, "insert": _insert_line, "delete": _plain_line, "set": _set_line,
    "clear": _clear_line, "change": _change_line, "move": _move_line, "if": _if_line, "fail": _plain_line,
    "return": _return_line,
}


def first_line(statement):
    """The line of a statement; that of an if is only the first one of its lines."""
    write = WRITERS[statement[0]]
    return write(statement)


def lines_of(statements):
    """The list of the lines of some statements."""
    lines = []
    for statement in statements:
        lines.append(first_line(statement))
        if statement[0] == "if":
            lines.extend([*lines_of(statement[2]), "else", *lines_of(statement[3]), "end"])
    return lines


def _read_bound(text):
    """The value with a text, or None for a minus; raises InvalidText()."""
    return None if text == "-" else read_value(text)


def _read_range(text):
    """The range with a text; raises InvalidText()."""
    words = text.split(" ")
    # A value has one word, or three if there is a sign behind the first one.
    low = 4 if words[2:3] in (["+"], ["-"]) else 2
    return (_read_bound(" ".join(words[1:low])), _read_bound(" ".join(words[low + 1:])))


def _read_values(text):
    """The tuple of the values with a text; raises InvalidText()."""
    return () if text == "-" else tuple([read_value(each) for each in text.split(", ")])


def _read_find(rest):
    ahead, _, condition = rest.partition(" where ")
    name, _, behind = ahead.partition(" ")
    end, _, bounds = behind.partition(" ")
    return ("find", name, end, _read_range(bounds), read_condition(condition))


def _read_step(rest):
    return ("step", *rest.split(" "))


def _read_insert(rest):
    name, _, values = rest.partition(" ")
    return ("insert", name, _read_values(values))


def _read_delete(rest):
    return ("delete", rest)


def _read_set(rest):
    name, _, behind = rest.partition(" ")
    column, _, value = behind.partition(" ")
    return ("set", name, column, read_value(value))


def _read_clear(rest):
    bounds, _, condition = rest.partition(" where ")
    return ("clear", _read_range(bounds), read_condition(condition))


def _read_change(rest):
    bounds, _, behind = rest.partition(" where ")
    condition, _, setting = behind.partition(" set ")
    column, _, value = setting.partition(" ")
    return ("change", _read_range(bounds), read_condition(condition), column, read_value(value))


def _read_move(rest):
    value, _, k = rest.rpartition(" ")
    return ("move", read_value(value), read_integer(k, MOST_DIGITS))


def _read_if(rest):
    return ("if", read_condition(rest), (), ())


def _read_fail(rest):
    return ("fail", rest)


def _read_return(rest):
    return ("return", _read_values(rest))


READERS = {
    "find": _read_find, "step": _read_step, "insert": _read_insert, "delete": _read_delete, "set": _read_set,
    "clear": _read_clear, "change": _read_change, "move": _read_move, "if": _read_if, "fail": _read_fail,
    "return": _read_return,
}


def read_line(line):
    """What may be the statement with this line, an if without statements in it; raises InvalidText().

    Whether it is a statement, and whether its line is just this one, remains to be seen.
    """
    word, _, rest = line.partition(" ")
    if word not in READERS:
        raise InvalidText()
    read = READERS[word]
    return read(rest)
