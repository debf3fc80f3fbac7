"""What the tests share: samples, wrong values, edits of texts, and readers written apart from the program's own.

The readers here work by regular expressions and rewriting, so that they do not repeat the program's mistakes.
"""

import random
import re
import string

BOUND = 10 ** 30
RESERVED = ("and", "found", "key", "next", "not", "or", "own", "set", "true", "where")
# All characters that strings may have.
ALPHABET = "".join(sign for sign in map(chr, range(32, 127)) if sign != "%") + "\n"
# The signs with which texts of values and conditions are most easily mistaken for others.
SMALL_ALPHABET = " ()<=+-.019arkn\n"

NAMES = ("a", "b", "r", "end", "price", "sixsix", "ownx", "nex", "keys", "an", "nor")
COLUMNS = ("key", "end", "price", "a", "zzzzzz")
NUMBERS = (0, 1, -1, 7, -12, 100, BOUND, -BOUND, BOUND - 1)

# No value, no condition and no name is among these.
WRONG = (
    True, False, None, 0, 1, -1, 10 ** 30, "", "A", "key", "and", "true", "own", "a b", "seven77", "sevenso", "a\n",
    (), [], (None,), (True,), ("true", "true"), ["true"], ("True",), ("found",), ("found", "r", "r"), ("found", "key"),
    ("found", ("name", "a")), ("number",), ("number", 1, 1), ("number", True), ("number", "1"), ("number", None),
    ("number", BOUND + 1), ("number", -BOUND - 1), ["number", 1], ("numbers", 1), ("name", "A"), ("name", "key"),
    ("name", ["a"]), ["name", "a"], ("field", "r"), ("field", "own", "end"), ("field", "r", "own"), ("field", "r", None),
    ["field", "r", "end"], ("own", "next"), ("own",), ("own", "a", "b"), ["own", "key"], ("next", "not"), ("next", 0),
    ("plus", ("name", "a")), ("plus", ["name", "a"], 1), ("plus", ("name", "a"), True), ("plus", ("name", "a"), None),
    ("plus", ("name", "a"), BOUND + 1), ("plus", ("plus", ("name", "a"), 1), 1), ("plus", 1, ("name", "a")),
    ["plus", ("name", "a"), 1], ("plus", ("name", "a"), 1, 1), ("plus", None, 1), (("plus",), ("name", "a"), 1),
    ("not",), ("not", ("true",), ("true",)), ["not", ("true",)], ("and", ("true",)), ("or", ("true",)),
    ("and", ("true",), ("true",), ("true",)), ["and", ("true",), ("true",)], ("xor", ("true",), ("true",)),
    ("below", ("name", "a")), ("below", ("name", "a"), 1), ("below", 1, ("name", "a")), ("same", ("true",), ("true",)),
    ("atmost", ("name", "a"), ["name", "b"]), ["same", ("name", "a"), ("name", "a")], (["not"], ("true",)),
    (["and"], ("true",), ("true",)), (["below"], ("name", "a"), ("name", "a")), [["true"]], (("true",),),
    ("below", ("name", "a"), ("name", "a"), ("name", "a")), (1, 2, 3), (None, None), "true and true", "not true",
)


def singles():
    """Values of all forms other than plus."""
    found = [("number", k) for k in NUMBERS] + [("name", a) for a in NAMES]
    found += [("field", r, column) for r in NAMES for column in COLUMNS]
    found += [("own", column) for column in COLUMNS] + [("next", column) for column in COLUMNS]
    return found


def values():
    """Values of all forms."""
    return singles() + [("plus", single, k) for single in singles() for k in NUMBERS]


def edits(text, alphabet):
    """The set of the texts with one sign put in, left out or exchanged."""
    found = {text[:at] + sign + text[at:] for at in range(len(text) + 1) for sign in alphabet}
    found |= {text[:at] + text[at + 1:] for at in range(len(text))}
    found |= {text[:at] + sign + text[at + 1:] for at in range(len(text)) for sign in alphabet}
    return found - {text}


def some_edit(dice, text, alphabet=ALPHABET):
    """A text with one sign put in, left out or exchanged, as the dice fall."""
    at = dice.randrange(len(text) + 1)
    behind = at + dice.randrange(2)
    return text[:at] + dice.choice(["", dice.choice(alphabet)]) + text[behind:]


def some_value(dice):
    """A value of any form."""
    single = dice.choice(singles())
    return dice.choice([single, ("plus", single, dice.choice(NUMBERS))])


def some_condition(dice, depth):
    """A condition of just this depth, with all forms at its ends."""
    if depth == 1:
        form = dice.choice(["true", "found", "atmost", "below", "same"])
        if form == "true":
            return ("true",)
        if form == "found":
            return ("found", dice.choice(NAMES))
        return (form, some_value(dice), some_value(dice))
    form = dice.choice(["not", "and", "or"])
    deep = some_condition(dice, depth - 1)
    if form == "not":
        return ("not", deep)
    other = some_condition(dice, dice.randint(1, depth - 1))
    return dice.choice([(form, deep, other), (form, other, deep)])


def some_conditions(seed, many):
    """A list of conditions of one to six levels, as many of each."""
    dice = random.Random(seed)
    return [some_condition(dice, depth) for depth in range(1, 7) for _ in range(many)]


def exchanged(condition, path, part):
    """The condition with another part at a path."""
    if not path:
        return part
    at = path[0]
    return condition[:at] + (exchanged(condition[at], path[1:], part),) + condition[at + 1:]


# ---- what is a name, a value and a condition, said once more

def right_name(thing):
    return type(thing) is str and re.fullmatch("[a-z]{1,6}", thing) is not None and thing not in RESERVED


def right_column(thing):
    return thing == "key" or right_name(thing)


def right_number(thing):
    return type(thing) is int and abs(thing) <= BOUND


def right_value(thing, may_add=True):
    match thing if type(thing) is tuple else None:
        case ("number", k):
            return right_number(k)
        case ("name", a):
            return right_name(a)
        case ("field", r, column):
            return right_name(r) and right_column(column)
        case ("own" | "next", column):
            return right_column(column)
        case ("plus", v, k):
            return may_add and right_value(v, False) and right_number(k)
    return False


def right_conditions(thing):
    """The list of the conditions in a thing with the indexes at which they stand, or None if it is wrong by itself."""
    match thing if type(thing) is tuple else None:
        case ("true",):
            return []
        case ("found", r) if right_name(r):
            return []
        case ("atmost" | "below" | "same", v, w) if right_value(v) and right_value(w):
            return []
        case ("not", c):
            return [(1, c)]
        case ("and" | "or", c, d):
            return [(1, c), (2, d)]
    return None


def first_wrong(thing, path=()):
    """The path of the first part that is no condition by itself, or None."""
    inner = right_conditions(thing)
    if inner is None or len(path) == 6:
        return path
    for at, part in inner:
        wrong = first_wrong(part, (*path, at))
        if wrong is not None:
            return wrong
    return None


# ---- the values and conditions of texts, read once more

NAME = r"(?!(?:" + "|".join(RESERVED) + r")(?![a-z]))[a-z]{1,6}(?![a-z])"
COLUMN = rf"(?:key(?![a-z])|{NAME})"
SINGLE = rf"(?:(?P<number>0|-?[1-9]\d{{0,30}})|(?P<name>{NAME})|(?P<row>{NAME})\.(?P<column>{COLUMN})" \
         rf"|(?P<side>own|next)\.(?P<sidecolumn>{COLUMN}))"
VALUE = re.compile(rf"{SINGLE}(?: (?P<sign>\+) (?P<more>0|[1-9]\d{{0,30}})| - (?P<less>[1-9]\d{{0,30}}))?", re.ASCII)


def value_of(text):
    """The value with a text, or None."""
    found = VALUE.fullmatch(text)
    if found is None:
        return None
    if found["number"] is not None:
        value = ("number", int(found["number"]))
    elif found["name"] is not None:
        value = ("name", found["name"])
    elif found["row"] is not None:
        value = ("field", found["row"], found["column"])
    else:
        value = (found["side"], found["sidecolumn"])
    if found["more"] is not None:
        value = ("plus", value, int(found["more"]))
    if found["less"] is not None:
        value = ("plus", value, -int(found["less"]))
    return value if right_value(value) else None


ENDS = r"(?<![^ (])", r"(?![^ )])"
OPERAND = r"[a-z0-9.-]+(?: [+-] [0-9]+)?"
COMPARISON = re.compile(rf"{ENDS[0]}({OPERAND}) (<=|<|=) ({OPERAND}){ENDS[1]}")
FOUND = re.compile(rf"{ENDS[0]}found ([a-z]+){ENDS[1]}")
TRUE = re.compile(rf"{ENDS[0]}true{ENDS[1]}")
NOT = re.compile(rf"{ENDS[0]}not \x01(\d+)\x01{ENDS[1]}")
JOINED = re.compile(rf"\(\x01(\d+)\x01 (and|or) \x01(\d+)\x01\)")
FORMS = {"<=": "atmost", "<": "below", "=": "same"}


def condition_of(text):
    """The condition with a text, or None: by putting a mark in the place of each condition, the innermost first."""
    kept = []

    def mark(part):
        kept.append(part)
        return f"\x01{len(kept) - 1}\x01"

    text = COMPARISON.sub(lambda m: mark((FORMS[m[2]], value_of(m[1]), value_of(m[3]))), text)
    text = FOUND.sub(lambda m: mark(("found", m[1])), text)
    text = TRUE.sub(lambda m: mark(("true",)), text)
    before = None
    while text != before:
        before = text
        text = NOT.sub(lambda m: mark(("not", kept[int(m[1])])), text)
        text = JOINED.sub(lambda m: mark((m[2], kept[int(m[1])], kept[int(m[3])])), text)
    whole = re.fullmatch(r"\x01(\d+)\x01", text)
    if whole is None or first_wrong(kept[int(whole[1])]) is not None:
        return None
    return kept[int(whole[1])]


def letters_beside(word):
    """The words that differ from a word in one letter that is put in, left out or exchanged."""
    return sorted(edits(word, string.ascii_lowercase))
