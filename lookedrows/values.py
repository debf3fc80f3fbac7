"""Names, columns and values: what they are, their texts, and the sum of a value and an integer."""

from lookedrows.errors import InvalidColumns, InvalidText, InvalidValue

BOUND = 10 ** 30
MOST_DIGITS = 31
MOST_LETTERS = 6
MOST_COLUMNS = 3
RESERVED = ("and", "found", "key", "next", "not", "or", "own", "set", "true", "where")


def is_name(value):
    """Whether any value is a name."""
    if not isinstance(value, str) or value in RESERVED:
        return False
    return 1 <= len(value) <= MOST_LETTERS and all(["a" <= letter <= "z" for letter in value])


def is_column(value):
    """Whether any value is the name of a column of some table."""
    return value == "key" or is_name(value)


def are_names(value, most):
    """Whether any value is a list of different names, at most so many."""
    if not isinstance(value, (list, tuple)) or len(value) > most:
        return False
    return all([is_name(name) for name in value]) and len(set(value)) == len(value)


def all_columns(columns):
    """The tuple of all columns of a table with these further ones; raises InvalidColumns()."""
    if not are_names(columns, MOST_COLUMNS):
        raise InvalidColumns()
    return ("key", *columns)


def is_whole(value):
    """Whether any value is an integer; True and False are none."""
    return isinstance(value, int) and not isinstance(value, bool)


def are_whole(values, many):
    """Whether some values are so many integers."""
    return len(values) == many and all([is_whole(value) for value in values])


def is_value(value):
    """Whether any value is a value over some columns."""
    if isinstance(value, tuple) and len(value) == 3 and value[0] == "plus":
        return _is_single(value[1]) and is_bounded(value[2])
    return _is_single(value)


def _is_single(value):
    """Whether any value is a value of a form other than plus."""
    if not isinstance(value, tuple):
        return False
    if len(value) == 3:
        return value[0] == "field" and is_name(value[1]) and is_column(value[2])
    if len(value) != 2:
        return False
    form, part = value
    if form == "number":
        return is_bounded(part)
    if form == "name":
        return is_name(part)
    return form in ("own", "next") and is_column(part)


def is_bounded(value):
    """Whether any value is an integer that may stand in a value."""
    return is_whole(value) and -BOUND <= value <= BOUND


def value_text(value):
    """The text of a value; raises InvalidValue() for what is none."""
    if not is_value(value):
        raise InvalidValue()
    if value[0] != "plus":
        return _single_text(value)
    sign = "-" if value[2] < 0 else "+"
    return f"{_single_text(value[1])} {sign} {abs(value[2])}"


def _single_text(value):
    """The text of a value of a form other than plus."""
    if value[0] in ("number", "name"):
        return str(value[1])
    if value[0] == "field":
        return f"{value[1]}.{value[2]}"
    return f"{value[0]}.{value[1]}"


def read_value(text):
    """The value with a text; raises InvalidText() for what is the text of none."""
    if not isinstance(text, str):
        raise InvalidText()
    words = text.split(" ")
    value = _read_single(words[0])
    if len(words) == 3:
        value = ("plus", value, _read_signed(words[1], words[2], MOST_DIGITS))
    if len(words) not in (1, 3) or not is_value(value):
        raise InvalidText()
    return value


def _read_single(word):
    """The value of a form other than plus with this text; for the text of none, a tuple that is no value."""
    first, dot, column = word.partition(".")
    if first in ("own", "next"):
        return (first, column)
    if dot:
        return ("field", first, column)
    if is_name(word):
        return ("name", word)
    return ("number", read_integer(word, MOST_DIGITS))


def read_integer(word, most_digits):
    """The integer with this text, which has at most so many digits, or None if no integer is written so."""
    if word.startswith("-"):
        return _read_signed("-", word[1:], most_digits)
    return _read_signed("+", word, most_digits)


def _read_signed(sign, word, most_digits):
    """The integer with these digits behind this sign, or None if no integer is written so."""
    # The length goes first, for Python refuses to read integers of very many digits.
    if not 1 <= len(word) <= most_digits or any([not "0" <= digit <= "9" for digit in word]):
        return None
    k = int(word)
    # Only one text stands for an integer: without leading zeros, and 0 without a minus.
    if str(k) != word or sign not in ("+", "-") or (sign == "-" and k == 0):
        return None
    return -k if sign == "-" else k


def shifted(value, k):
    """The value and the integer k together, as one value; raises InvalidValue() for what is no value."""
    if not is_value(value):
        raise InvalidValue()
    single, added = value, k
    if value[0] == "plus":
        single, added = value[1], value[2] + k
    if single[0] == "number":
        return ("number", single[1] + added)
    if added == 0:
        return single
    return ("plus", single, added)
