"""Statements: their forms, and what they read, look at and change."""

from lookedrows.conditions import parts, values_in
from lookedrows.errors import InvalidStatement
from lookedrows.values import is_bounded, is_name

MOST_OWN = 12
MOST_IN_ALL = 24
DEEPEST_STATEMENT = 3
MOST_RETURNED = 4

# What stands behind the first word of a statement, part by part.
SHAPES = {
    "find": ("new row", "end", "range", "filter"),
    "step": ("new row", "side", "row"),
    "insert": ("new row", "cells"),
    "delete": ("row",),
    "set": ("row", "column", "value"),
    "clear": ("range", "filter"),
    "change": ("range", "filter", "column", "own value"),
    "move": ("value", "integer"),
    "if": ("condition", "statements", "statements"),
    "fail": ("word",),
    "return": ("values",),
}
ENDS = ("first", "last")
SIDES = ("next", "prior")
READ = ("number", "name", "field")
READ_BY_ROW = ("number", "name", "field", "own")

LOOKS = {"find": 1, "step": 1, "insert": 1, "move": 2}
FAILING = ("fail", "insert", "move", "delete", "set", "step")
CHANGING = ("insert", "delete", "set", "clear", "change", "move")
# What these fail with, besides what reading a field fails with.
OWN_WORDS = {"insert": ("taken",), "move": ("order",), "delete": ("none", "gone"), "set": ("none", "gone"),
             "step": ("gone",)}


def checked_statements(statements, scope):
    """The tuple of the statements, with tuples in the place of lists; raises InvalidStatement(path)."""
    if not _is_list(statements):
        raise InvalidStatement(())
    many = 0
    waiting = [((index,), statements[index]) for index in reversed(range(len(statements)))]
    while waiting:
        path, statement = waiting.pop()
        many += 1
        too_many = path[0] >= MOST_OWN or many > MOST_IN_ALL
        # Each if on the way takes two indexes.
        if too_many or len(path) > 2 * DEEPEST_STATEMENT - 1 or not is_statement(statement, scope):
            raise InvalidStatement(path)
        if statement[0] == "if":
            inner = [((*path, at, index), part) for at in (2, 3) for index, part in enumerate(statement[at])]
            waiting.extend(inner[::-1])
    return tuple([_told(statement) for statement in statements])


def _is_list(value):
    """Whether any value is a list, or a tuple in its place."""
    return isinstance(value, (list, tuple))


def _told(statement):
    """The statement with tuples in the place of lists."""
    if statement[0] == "if":
        first, second = [tuple([_told(inner) for inner in statement[at]]) for at in (2, 3)]
        return ("if", statement[1], first, second)
    if statement[0] in ("insert", "return"):
        return (*statement[:-1], tuple(statement[-1]))
    return statement


def is_statement(value, scope):
    """Whether any value is a statement by itself, whatever stands in the lists of an if."""
    if not isinstance(value, tuple) or not value or not isinstance(value[0], str) or value[0] not in SHAPES:
        return False
    kinds = SHAPES[value[0]]
    if len(value) != len(kinds) + 1:
        return False
    return all([_fits(kind, part, scope) for kind, part in zip(kinds, value[1:])])


def _fits(kind, part, scope):
    """Whether any value may stand in the place of a part of this kind."""
    check = CHECKS[kind]
    return check(part, scope)


def _is_row_name(part, scope):
    return is_name(part)


def _is_end(part, scope):
    return part in ENDS


def _is_side(part, scope):
    return part in SIDES


def _is_range(part, scope):
    if not isinstance(part, tuple) or len(part) != 2:
        return False
    return all([bound is None or scope.has_value(bound, READ) for bound in part])


def _is_filter(part, scope):
    return scope.has_condition(part, READ_BY_ROW)


def _is_condition(part, scope):
    return scope.has_condition(part, READ)


def _are_values(part, scope):
    return _is_list(part) and len(part) <= MOST_RETURNED and all([scope.has_value(value, READ) for value in part])


def _are_cells(part, scope):
    return _are_values(part, scope) and len(part) == len(scope.layout)


def _is_further_column(part, scope):
    # The column key is no name, so it is none of these.
    return is_name(part) and part in scope.layout


def _is_value(part, scope):
    return scope.has_value(part, READ)


def _is_own_value(part, scope):
    return scope.has_value(part, READ_BY_ROW)


def _is_integer(part, scope):
    return is_bounded(part)


def _are_statements(part, scope):
    return _is_list(part)


CHECKS = {
    "row": _is_row_name, "new row": _is_row_name, "end": _is_end, "side": _is_side, "range": _is_range,
    "filter": _is_filter, "condition": _is_condition, "cells": _are_cells, "values": _are_values,
    "column": _is_further_column, "value": _is_value, "own value": _is_own_value, "integer": _is_integer,
    "statements": _are_statements, "word": _is_row_name,
}


def values_of(statement):
    """The list of the values of a statement, in their order, without those of the statements in it."""
    found = []
    for kind, part in zip(SHAPES[statement[0]], statement[1:]):
        if kind in ("filter", "condition"):
            found.extend(values_in(part))
        elif kind in ("range", "cells", "values"):
            found.extend([value for value in part if value is not None])
        elif kind in ("value", "own value"):
            found.append(part)
    return found


def inner_lists(statement):
    """The list of the lists of statements in a statement."""
    return list(statement[2:]) if statement[0] == "if" else []


def fields_in(values):
    """The list of the fields among some values, those in a plus, too."""
    singles = [value[1] if value[0] == "plus" else value for value in values]
    return [single for single in singles if single[0] == "field"]


def rows_used(statement):
    """The list of the names of found rows of which a statement, or one in it, reads something."""
    found = [field[1] for field in fields_in(values_of(statement))]
    for kind, part in zip(SHAPES[statement[0]], statement[1:]):
        if kind == "row":
            found.append(part)
        if kind in ("filter", "condition"):
            found.extend([test[1] for _, test in parts(part) if test[0] == "found"])
    for inner in inner_lists(statement):
        for each in inner:
            found.extend(rows_used(each))
    return found


def rows_given(statement):
    """The list of the names that a statement, or one in it, gives to rows."""
    found = [part for kind, part in zip(SHAPES[statement[0]], statement[1:]) if kind == "new row"]
    for inner in inner_lists(statement):
        for each in inner:
            found.extend(rows_given(each))
    return found


def rows_named(statement):
    """The list of the names of found rows in a statement and in those in it."""
    return rows_used(statement) + rows_given(statement)


def looks_of(statements):
    """The number of looks of a list of statements."""
    looks = 0
    for statement in statements:
        inner = [looks_of(part) for part in inner_lists(statement)]
        looks = looks + max([LOOKS.get(statement[0], 0), *inner])
    return looks


def late_index(statements):
    """The index of the first statement that may fail, or has one in it that may, behind a change; or None."""
    changed = False
    for index, statement in enumerate(statements):
        if changed and _may_fail(statement):
            return index
        if any([late_index(inner) is not None for inner in inner_lists(statement)]):
            return index
        changed = changed or has_any(statement, CHANGING)
    return None


def _may_fail(statement):
    """Whether a statement, or one in it, may fail."""
    if statement[0] in FAILING or fields_in(values_of(statement)):
        return True
    return any([_may_fail(each) for inner in inner_lists(statement) for each in inner])


def has_any(statement, words):
    """Whether a statement, or one in it, begins with one of some words."""
    return statement[0] in words or any([have_any(inner, words) for inner in inner_lists(statement)])


def have_any(statements, words):
    """Whether one of some statements, or one in them, begins with one of some words."""
    return any([has_any(statement, words) for statement in statements])


def words_of(statement):
    """The list of the words with which a statement, or one in it, can fail on whatever table."""
    found = [statement[1]] if statement[0] == "fail" else list(OWN_WORDS.get(statement[0], ()))
    if fields_in(values_of(statement)):
        found.extend(["none", "gone"])
    for inner in inner_lists(statement):
        for each in inner:
            found.extend(words_of(each))
    return found
