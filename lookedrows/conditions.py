"""Conditions: what they are, their texts and their parts."""

from lookedrows.errors import InvalidCondition, InvalidText
from lookedrows.values import is_name, is_value, read_value, value_text

DEEPEST = 6
SIGNS = {"atmost": "<=", "below": "<", "same": "="}
FORMS = {"<=": "atmost", "<": "below", "=": "same"}


def condition_text(condition):
    """The text of a condition; raises InvalidCondition(path) with the first part that is none by itself."""
    _checked_parts(condition)
    return _text(condition)


def _text(part):
    """The text of a part of a condition that has been checked."""
    form = part[0]
    if form == "true":
        return "true"
    if form == "found":
        return f"found {part[1]}"
    if form == "not":
        return f"not {_text(part[1])}"
    if form in SIGNS:
        return f"{value_text(part[1])} {SIGNS[form]} {value_text(part[2])}"
    return f"({_text(part[1])} {form} {_text(part[2])})"


def _checked_parts(condition):
    """The list of the pairs (path, part) in the order of the text; raises as condition_text."""
    pairs = []
    waiting = [((), condition)]
    while waiting:
        path, part = waiting.pop()
        if len(path) >= DEEPEST or not _is_condition_itself(part):
            raise InvalidCondition(path)
        pairs.append((path, part))
        # The last one of them is looked at next, so the first part goes last.
        waiting.extend([((*path, at), part[at]) for at in reversed(_places(part))])
    return pairs


def _places(part):
    """The list of the indexes at which a condition has conditions."""
    if part[0] in ("not", "and", "or"):
        return list(range(1, len(part)))
    return []


def _is_condition_itself(part):
    """Whether any value is a condition, whatever stands in the places of the conditions in it."""
    if not isinstance(part, tuple) or len(part) not in (1, 2, 3):
        return False
    form = part[0]
    if len(part) == 1:
        return form == "true"
    if len(part) == 2:
        return form == "not" or (form == "found" and is_name(part[1]))
    # A list is no key that a dict could be asked for.
    if isinstance(form, str) and form in SIGNS:
        return is_value(part[1]) and is_value(part[2])
    return form in ("and", "or")


def parts(condition):
    """Yields the pairs (path, part), each part ahead of those in it; raises as condition_text."""
    for pair in _checked_parts(condition):
        yield pair


def values_in(condition):
    """The list of the values in a condition, in the order of the text; raises as condition_text."""
    return [value for _, part in _checked_parts(condition) if part[0] in SIGNS for value in part[1:]]


def all_of(*conditions):
    """The conjunction of conditions."""
    if not conditions:
        return ("true",)
    whole = conditions[-1]
    for condition in reversed(conditions[:-1]):
        whole = ("and", condition, whole)
    return whole


def read_condition(text):
    """The condition with a text; raises InvalidText() for what is the text of none."""
    if not isinstance(text, str):
        raise InvalidText()
    # A space too many beside a bracket leaves an empty word, which nothing reads.
    words = text.replace("(", "( ").replace(")", " )").split(" ")
    condition, end = _read_part(words, 0, 1)
    if end != len(words):
        raise InvalidText()
    return condition


def _read_part(words, at, depth):
    """The pair of the condition that begins at a word, and the index of the word behind it."""
    if depth > DEEPEST:
        raise InvalidText()
    word = _word(words, at)
    if word == "true":
        return ("true",), at + 1
    if word == "found":
        return _read_found(words, at + 1)
    if word == "not":
        part, end = _read_part(words, at + 1, depth + 1)
        return ("not", part), end
    if word == "(":
        return _read_joined(words, at + 1, depth + 1)
    return _read_comparison(words, at)


def _word(words, at):
    """The word of this index, or the empty word behind the last one."""
    return words[at] if at < len(words) else ""


def _read_found(words, at):
    """As _read_part, for what stands behind the word found."""
    name = _word(words, at)
    if not is_name(name):
        raise InvalidText()
    return ("found", name), at + 1


def _read_joined(words, at, depth):
    """As _read_part, for what stands behind an opening bracket."""
    left, middle = _read_part(words, at, depth)
    form = _word(words, middle)
    if form not in ("and", "or"):
        raise InvalidText()
    right, end = _read_part(words, middle + 1, depth)
    if _word(words, end) != ")":
        raise InvalidText()
    return (form, left, right), end + 1


def _read_comparison(words, at):
    """As _read_part, for a comparison of two values."""
    left, middle = _read_operand(words, at)
    sign = _word(words, middle)
    if sign not in FORMS:
        raise InvalidText()
    right, end = _read_operand(words, middle + 1)
    return (FORMS[sign], left, right), end


def _read_operand(words, at):
    """The pair of the value that begins at a word, and the index of the word behind it."""
    many = 3 if _word(words, at + 1) in ("+", "-") else 1
    return read_value(" ".join(words[at:at + many])), at + many
