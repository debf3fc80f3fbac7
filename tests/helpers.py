"""What the tests share: samples, wrong values, edits of texts, and readers written apart from the program's own.

The readers here work by regular expressions and rewriting, so that they do not repeat the program's mistakes.
"""

import itertools
import random
import re
import string

BOUND = 10 ** 30
RESERVED = ("and", "found", "key", "next", "not", "or", "own", "set", "true", "where")
# All characters that strings may have.
ALPHABET = "".join(sign for sign in map(chr, range(32, 127)) if sign != "%") + "\n"
# The signs with which texts of values and conditions are most easily mistaken for others.
SMALL_ALPHABET = " ()<=+-.019arkn\n"

NAMES = ("a", "b", "r", "end", "price", "sixsix", "ownx", "nex", "keys", "an", "nor")
COLUMNS = ("key", "end", "price", "a", "zzzzzz")
NUMBERS = (0, 1, -1, 7, -12, 100, BOUND, -BOUND, BOUND - 1)

# No value, no condition and no name is among these.
WRONG = (
    True, False, None, 0, 1, -1, 10 ** 30, "", "A", "key", "and", "true", "own", "a b", "seven77", "sevenso", "a\n",
    (), [], (None,), (True,), ("true", "true"), ["true"], ("True",), ("found",), ("found", "r", "r"), ("found", "key"),
    ("found", ("name", "a")), ("number",), ("number", 1, 1), ("number", True), ("number", "1"), ("number", None),
    ("number", BOUND + 1), ("number", -BOUND - 1), ["number", 1], ("numbers", 1), ("name", "A"), ("name", "key"),
    ("name", ["a"]), ["name", "a"], ("field", "r"), ("field", "own", "end"), ("field", "r", "own"),
    ("field", "r", None),
    ["field", "r", "end"], ("own", "next"), ("own",), ("own", "a", "b"), ["own", "key"], ("next", "not"), ("next", 0),
    ("plus", ("name", "a")), ("plus", ["name", "a"], 1), ("plus", ("name", "a"), True), ("plus", ("name", "a"), None),
    ("plus", ("name", "a"), BOUND + 1), ("plus", ("plus", ("name", "a"), 1), 1), ("plus", 1, ("name", "a")),
    ["plus", ("name", "a"), 1], ("plus", ("name", "a"), 1, 1), ("plus", None, 1), (("plus",), ("name", "a"), 1),
    ("not",), ("not", ("true",), ("true",)), ["not", ("true",)], ("and", ("true",)), ("or", ("true",)),
    ("and", ("true",), ("true",), ("true",)), ["and", ("true",), ("true",)], ("xor", ("true",), ("true",)),
    ("below", ("name", "a")), ("below", ("name", "a"), 1), ("below", 1, ("name", "a")), ("same", ("true",), ("true",)),
    ("atmost", ("name", "a"), ["name", "b"]), ["same", ("name", "a"), ("name", "a")], (["not"], ("true",)),
    (["and"], ("true",), ("true",)), (["below"], ("name", "a"), ("name", "a")), [["true"]], (("true",),),
    ("below", ("name", "a"), ("name", "a"), ("name", "a")), (1, 2, 3), (None, None), "true and true", "not true",
)


def singles():
    """Values of all forms other than plus."""
    found = [("number", k) for k in NUMBERS] + [("name", a) for a in NAMES]
    found += [("field", r, column) for r in NAMES for column in COLUMNS]
    found += [("own", column) for column in COLUMNS] + [("next", column) for column in COLUMNS]
    return found


def values():
    """Values of all forms."""
    return singles() + [("plus", single, k) for single in singles() for k in NUMBERS]


def edits(text, alphabet):
    """The set of the texts with one sign put in, left out or exchanged."""
    found = {text[:at] + sign + text[at:] for at in range(len(text) + 1) for sign in alphabet}
    found |= {text[:at] + text[at + 1:] for at in range(len(text))}
    found |= {text[:at] + sign + text[at + 1:] for at in range(len(text)) for sign in alphabet}
    return found - {text}


def some_edit(dice, text, alphabet=ALPHABET):
    """A text with one sign put in, left out or exchanged, as the dice fall."""
    at = dice.randrange(len(text) + 1)
    behind = at + dice.randrange(2)
    return text[:at] + dice.choice(["", dice.choice(alphabet)]) + text[behind:]


def some_value(dice):
    """A value of any form."""
    single = dice.choice(singles())
    return dice.choice([single, ("plus", single, dice.choice(NUMBERS))])


def some_condition(dice, depth):
    """A condition of just this depth, with all forms at its ends."""
    if depth == 1:
        form = dice.choice(["true", "found", "atmost", "below", "same"])
        if form == "true":
            return ("true",)
        if form == "found":
            return ("found", dice.choice(NAMES))
        return (form, some_value(dice), some_value(dice))
    form = dice.choice(["not", "and", "or"])
    deep = some_condition(dice, depth - 1)
    if form == "not":
        return ("not", deep)
    other = some_condition(dice, dice.randint(1, depth - 1))
    return dice.choice([(form, deep, other), (form, other, deep)])


def some_conditions(seed, many):
    """A list of conditions of one to six levels, as many of each."""
    dice = random.Random(seed)
    return [some_condition(dice, depth) for depth in range(1, 7) for _ in range(many)]


def exchanged(condition, path, part):
    """The condition with another part at a path."""
    if not path:
        return part
    at = path[0]
    return condition[:at] + (exchanged(condition[at], path[1:], part),) + condition[at + 1:]


# ---- what is a name, a value and a condition, said once more

def right_name(thing):
    return type(thing) is str and re.fullmatch("[a-z]{1,6}", thing) is not None and thing not in RESERVED


def right_column(thing):
    return thing == "key" or right_name(thing)


def right_number(thing):
    return type(thing) is int and abs(thing) <= BOUND


def right_value(thing, may_add=True):
    match thing if type(thing) is tuple else None:
        case ("number", k):
            return right_number(k)
        case ("name", a):
            return right_name(a)
        case ("field", r, column):
            return right_name(r) and right_column(column)
        case ("own" | "next", column):
            return right_column(column)
        case ("plus", v, k):
            return may_add and right_value(v, False) and right_number(k)
    return False


def right_conditions(thing):
    """The list of the conditions in a thing with the indexes at which they stand, or None if it is wrong by itself."""
    match thing if type(thing) is tuple else None:
        case ("true",):
            return []
        case ("found", r) if right_name(r):
            return []
        case ("atmost" | "below" | "same", v, w) if right_value(v) and right_value(w):
            return []
        case ("not", c):
            return [(1, c)]
        case ("and" | "or", c, d):
            return [(1, c), (2, d)]
    return None


def first_wrong(thing, path=()):
    """The path of the first part that is no condition by itself, or None."""
    inner = right_conditions(thing)
    if inner is None or len(path) == 6:
        return path
    for at, part in inner:
        wrong = first_wrong(part, (*path, at))
        if wrong is not None:
            return wrong
    return None


# ---- the values and conditions of texts, read once more

NAME = r"(?!(?:" + "|".join(RESERVED) + r")(?![a-z]))[a-z]{1,6}(?![a-z])"
COLUMN = rf"(?:key(?![a-z])|{NAME})"
SINGLE = rf"(?:(?P<number>0|-?[1-9]\d{{0,30}})|(?P<name>{NAME})|(?P<row>{NAME})\.(?P<column>{COLUMN})" \
         rf"|(?P<side>own|next)\.(?P<sidecolumn>{COLUMN}))"
VALUE = re.compile(rf"{SINGLE}(?: (?P<sign>\+) (?P<more>0|[1-9]\d{{0,30}})| - (?P<less>[1-9]\d{{0,30}}))?", re.ASCII)


def value_of(text):
    """The value with a text, or None."""
    found = VALUE.fullmatch(text)
    if found is None:
        return None
    if found["number"] is not None:
        value = ("number", int(found["number"]))
    elif found["name"] is not None:
        value = ("name", found["name"])
    elif found["row"] is not None:
        value = ("field", found["row"], found["column"])
    else:
        value = (found["side"], found["sidecolumn"])
    if found["more"] is not None:
        value = ("plus", value, int(found["more"]))
    if found["less"] is not None:
        value = ("plus", value, -int(found["less"]))
    return value if right_value(value) else None


ENDS = r"(?<![^ (])", r"(?![^ )])"
OPERAND = r"[a-z0-9.-]+(?: [+-] [0-9]+)?"
COMPARISON = re.compile(rf"{ENDS[0]}({OPERAND}) (<=|<|=) ({OPERAND}){ENDS[1]}")
FOUND = re.compile(rf"{ENDS[0]}found ([a-z]+){ENDS[1]}")
TRUE = re.compile(rf"{ENDS[0]}true{ENDS[1]}")
NOT = re.compile(rf"{ENDS[0]}not \x01(\d+)\x01{ENDS[1]}")
JOINED = re.compile(rf"\(\x01(\d+)\x01 (and|or) \x01(\d+)\x01\)")
FORMS = {"<=": "atmost", "<": "below", "=": "same"}


def condition_of(text):
    """The condition with a text, or None: by putting a mark in the place of each condition, the innermost first."""
    kept = []

    def mark(part):
        kept.append(part)
        return f"\x01{len(kept) - 1}\x01"

    text = COMPARISON.sub(lambda m: mark((FORMS[m[2]], value_of(m[1]), value_of(m[3]))), text)
    text = FOUND.sub(lambda m: mark(("found", m[1])), text)
    text = TRUE.sub(lambda m: mark(("true",)), text)
    before = None
    while text != before:
        before = text
        text = NOT.sub(lambda m: mark(("not", kept[int(m[1])])), text)
        text = JOINED.sub(lambda m: mark((m[2], kept[int(m[1])], kept[int(m[3])])), text)
    whole = re.fullmatch(r"\x01(\d+)\x01", text)
    if whole is None or first_wrong(kept[int(whole[1])]) is not None:
        return None
    return kept[int(whole[1])]


def letters_beside(word):
    """The words that differ from a word in one letter that is put in, left out or exchanged."""
    return sorted(edits(word, string.ascii_lowercase))


# ---- comparisons, said once more

def right_unknown(thing):
    if type(thing) is not str:
        return False
    cell = re.fullmatch(r"(?:0|[1-9][0-9]*)\.([a-z]+)", thing)
    return thing == "" or right_name(thing) or (cell is not None and right_column(cell[1]))


def least_sums(comparisons):
    """The dict from the pairs of unknowns to the least sum of a way from one to the other, or None if there is a ring.

    By Floyd and Warshall, over all unknowns and 0.
    """
    unknowns = sorted({""} | {side for left, right, _ in comparisons for side in (left, right)})
    sums = {(u, u): 0 for u in unknowns}
    for left, right, k in comparisons:
        sums[left, right] = min(k, sums.get((left, right), k))
    for mid in unknowns:
        for one in unknowns:
            for other in unknowns:
                if (one, mid) in sums and (mid, other) in sums:
                    way = sums[one, mid] + sums[mid, other]
                    sums[one, other] = min(way, sums.get((one, other), way))
    if any(sums[u, u] < 0 for u in unknowns):
        return None
    return sums


def solves(numbers, comparisons):
    """Whether integers solve comparisons."""
    numbers = dict(numbers) | {"": 0}
    return all(numbers[left] <= numbers[right] + k for left, right, k in comparisons)


def grid(unknowns, low, high):
    """All dicts from unknowns to integers of a range."""
    return [dict(zip(unknowns, point)) for point in itertools.product(range(low, high + 1), repeat=len(unknowns))]


def some_comparisons(dice, unknowns, many, most):
    """A list of comparisons between unknowns, with integers of at most this size."""
    return [(dice.choice(unknowns), dice.choice(unknowns), dice.randint(-most, most)) for _ in range(many)]


# ---- statements, said once more

def is_list(thing):
    return type(thing) in (list, tuple)


def speaks_of(thing, forms, columns, arguments):
    """Whether a thing is a value of one of these forms, over all columns and the arguments."""
    if not right_value(thing):
        return False
    inner = thing[1] if thing[0] == "plus" else thing
    known = {"number": True, "name": inner[-1] in arguments, "field": inner[-1] in columns, "own": inner[-1] in columns,
             "next": inner[-1] in columns}
    return inner[0] in forms and known[inner[0]]


def tells_of(thing, forms, columns, arguments):
    """Whether a thing is a condition with such values alone."""
    if first_wrong(thing) is not None:
        return False
    return all(speaks_of(value, forms, columns, arguments) for value in all_values(thing))


def all_values(condition):
    """The values of a condition, in the order of its text."""
    if condition[0] in ("atmost", "below", "same"):
        return list(condition[1:])
    return [value for part in condition[1:] if type(part) is tuple for value in all_values(part)]


PLAIN_FORMS = ("number", "name", "field")
ROW_FORMS = (*PLAIN_FORMS, "own")


def right_statement(thing, columns, arguments):
    """Whether a thing is a statement by itself; the columns are all of them."""
    def value(v, forms=PLAIN_FORMS):
        return speaks_of(v, forms, columns, arguments)

    def condition(c, forms=ROW_FORMS):
        return tells_of(c, forms, columns, arguments)

    def bounds(pair):
        return type(pair) is tuple and len(pair) == 2 and all(v is None or value(v) for v in pair)

    def values(things, least, most):
        return is_list(things) and least <= len(things) <= most and all(value(v) for v in things)

    match thing if type(thing) is tuple else None:
        case ("find", r, "first" | "last", pair, c):
            return right_name(r) and bounds(pair) and condition(c)
        case ("step", r, "next" | "prior", s):
            return right_name(r) and right_name(s)
        case ("insert", r, things):
            return right_name(r) and values(things, len(columns), len(columns))
        case ("delete", r):
            return right_name(r)
        case ("set", r, column, v):
            return right_name(r) and column != "key" and column in columns and value(v)
        case ("clear", pair, c):
            return bounds(pair) and condition(c)
        case ("change", pair, c, column, v):
            return bounds(pair) and condition(c) and column != "key" and column in columns and value(v, ROW_FORMS)
        case ("move", v, k):
            return value(v) and right_number(k)
        case ("if", c, first, second):
            return condition(c, PLAIN_FORMS) and is_list(first) and is_list(second)
        case ("fail", word):
            return right_name(word)
        case ("return", things):
            return values(things, 0, 4)
    return False


def in_order(statements, path=(), depth=1):
    """The triples (path, depth, thing), each ahead of those in it, of whatever stands where statements should."""
    found = []
    for at, thing in enumerate(statements):
        found.append(((*path, at), depth, thing))
        if type(thing) is tuple and len(thing) == 4 and thing[0] == "if":
            for place in (2, 3):
                if is_list(thing[place]):
                    found += in_order(thing[place], (*path, at, place), depth + 1)
    return found


def first_wrong_statement(statements, columns, arguments):
    """The path of the first wrong statement, or None."""
    if not is_list(statements):
        return ()
    for count, (path, depth, thing) in enumerate(in_order(statements)):
        if count >= 24 or depth > 3 or path[0] >= 12 or not right_statement(thing, columns, arguments):
            return path
    return None


def ways_of(statements):
    """All lists of statements that a run can take through these: each if as such, and behind it one of its lists."""
    found = [[]]
    for statement in statements:
        ways = [[statement]]
        if statement[0] == "if":
            ways = [[statement, *way] for inner in statement[2:] for way in ways_of(inner)]
        found = [way + more for way in found for more in ways]
    return found


# ---- procedures and tables, as the dice fall

class Maker:
    """Makes procedures over some columns and arguments, with few names and small numbers, so that much goes on."""

    def __init__(self, dice, columns=("end",), arguments=("a", "b"), names=("r", "s", "t")):
        self.dice = dice
        self.columns = ("key", *columns)
        self.arguments = arguments
        self.names = names

    def value(self, own=False, fields=True):
        dice = self.dice
        forms = ["number"] + ["name"] * (2 if self.arguments else 0) + ["field"] * fields + ["own"] * (3 if own else 0)
        form = dice.choice(forms)
        single = {"number": ("number", dice.randint(-1, 6)), "own": ("own", dice.choice(self.columns)),
                  "name": ("name", dice.choice(self.arguments or ("a",))),
                  "field": ("field", dice.choice(self.names), dice.choice(self.columns))}[form]
        return ("plus", single, dice.randint(-2, 2)) if dice.random() < 0.3 else single

    def condition(self, own, depth=3, fields=True):
        dice = self.dice
        if depth > 1 and dice.random() < 0.4:
            form = dice.choice(["not", "and", "or"])
            inner = [self.condition(own, depth - 1, fields) for _ in range(1 if form == "not" else 2)]
            return (form, *inner)
        form = dice.choice(["true", "found", "atmost", "below", "same", "atmost", "below", "same"])
        if form == "true":
            return ("true",)
        if form == "found":
            return ("found", dice.choice(self.names))
        return (form, self.value(own, fields), self.value(own, fields))

    def bounds(self, fields=True):
        return tuple(self.dice.choice([None, None, self.value(fields=fields)]) for _ in range(2))

    def further(self):
        return self.dice.choice(self.columns[1:])

    def statement(self, depth=1, fields=True):
        dice = self.dice
        forms = ["find", "find", "step", "insert", "delete", "clear", "move", "if", "if", "fail", "return"]
        forms += ["set", "change"] * (len(self.columns) > 1)
        form = dice.choice(forms)
        if form == "find":
            c = self.condition(True, fields=fields)
            return ("find", dice.choice(self.names), dice.choice(["first", "last"]), self.bounds(fields), c)
        if form == "step":
            return ("step", dice.choice(self.names), dice.choice(["next", "prior"]), dice.choice(self.names))
        if form == "insert":
            return ("insert", dice.choice(self.names), tuple(self.value(fields=fields) for _ in self.columns))
        if form == "delete":
            return ("delete", dice.choice(self.names))
        if form == "set":
            return ("set", dice.choice(self.names), self.further(), self.value(fields=fields))
        if form == "clear":
            return ("clear", self.bounds(fields), self.condition(True, fields=fields))
        if form == "change":
            v = self.value(True, fields)
            return ("change", self.bounds(fields), self.condition(True, fields=fields), self.further(), v)
        if form == "move":
            return ("move", self.value(fields=fields), dice.randint(-2, 2))
        if form == "if" and depth < 3:
            lists = [self.statements(dice.randint(0, 2), depth + 1, fields) for _ in range(2)]
            return ("if", self.condition(False, fields=fields), *lists)
        if form == "fail" and dice.random() < 0.3:
            return ("fail", dice.choice(["busy", "none", "x"]))
        if dice.random() < 0.5:
            return ("return", tuple(self.value(fields=fields) for _ in range(dice.randint(0, 4))))
        return ("find", dice.choice(self.names), dice.choice(["first", "last"]), (None, None), ("true",))

    def statements(self, many, depth=1, fields=True):
        return tuple(self.statement(depth, fields) for _ in range(many))

    def body(self, many, fields=True):
        """The statements of a procedure: so few that some more may stand ahead of them."""
        while True:
            statements = self.statements(many, fields=fields)
            if len(in_order(statements)) <= 20:
                return statements

    def finds(self):
        """Statements that find most of the rows of which others speak, so that runs go on."""
        found = []
        for name in self.names:
            low = self.dice.choice([None, ("number", self.dice.randint(0, 4))])
            c = self.dice.choice([("true",), ("true",), self.condition(True, fields=False)])
            found.append(("find", name, self.dice.choice(["first", "last"]), (low, None), c))
        return tuple(self.dice.sample(found, self.dice.randint(2, len(found))))

    def rows(self, many, low=-1, high=6):
        keys = self.dice.sample(range(low, high + 1), many)
        return [(key, *(self.dice.randint(low, high) for _ in self.columns[1:])) for key in sorted(keys)]


# ---- runs, said once more

class Ended(Exception):
    """A run of the model has ended in this way."""

    def __init__(self, *ending):
        super().__init__()
        self.ending = ending


class Model:
    """A run on rows by numbers of their own: initial rows have the numbers of their places, new ones the next ones."""

    def __init__(self, columns, arguments, rows, numbers):
        self.columns = columns
        self.rows = {at: dict(zip(columns, row)) for at, row in enumerate(sorted(rows))}
        self.count = len(self.rows)
        self.given = dict(zip(arguments, numbers))
        self.found = {}
        self.looked = set()

    def table(self):
        return sorted(tuple(row.values()) for row in self.rows.values())

    def by_key(self):
        return sorted(self.rows, key=lambda at: self.rows[at]["key"])

    def check(self, name):
        at = self.found.get(name)
        if at is None:
            raise Ended("failed", "none")
        if at not in self.rows:
            raise Ended("failed", "gone")
        return at

    def read(self, value, own=None):
        if value[0] == "plus":
            return self.read(value[1], own) + value[2]
        if value[0] == "number":
            return value[1]
        if value[0] == "name":
            return self.given[value[1]]
        if value[0] == "own":
            return own[value[1]]
        return self.rows[self.check(value[1])][value[2]]

    def read_fields(self, values):
        for value in values:
            if value is not None and "field" in (value[0], value[1][0] if value[0] == "plus" else ""):
                self.read(value)

    def test(self, c, own=None):
        match c[0]:
            case "true":
                return True
            case "found":
                return self.found.get(c[1]) is not None
            case "not":
                return not self.test(c[1], own)
            case "and":
                return all(self.test(part, own) for part in c[1:])
            case "or":
                return any(self.test(part, own) for part in c[1:])
        left, right = [self.read(value, own) for value in c[1:]]
        return {"atmost": left <= right, "below": left < right, "same": left == right}[c[0]]

    def met(self, bounds, c):
        low, high = [None if v is None else self.read(v) for v in bounds]
        return [at for at in self.by_key() if (low is None or low <= self.rows[at]["key"])
                and (high is None or self.rows[at]["key"] < high) and self.test(c, self.rows[at])]

    def do(self, statement):
        getattr(self, "do_" + statement[0])(*statement[1:])

    def do_find(self, r, way, bounds, c):
        self.read_fields([*bounds, *all_values(c)])
        met = self.met(bounds, c)
        self.found[r] = (met[0] if way == "first" else met[-1]) if met else None
        self.looked.add(self.found[r])

    def do_step(self, r, way, s):
        behind = None
        if self.found.get(s) is not None:
            order = self.by_key()
            at = order.index(self.check(s)) + (1 if way == "next" else -1)
            behind = order[at] if 0 <= at < len(order) else None
        self.found[r] = behind
        self.looked.add(behind)

    def do_insert(self, r, values):
        row = dict(zip(self.columns, [self.read(value) for value in values]))
        taken = [at for at in self.rows if self.rows[at]["key"] == row["key"]]
        self.looked |= set(taken)
        if taken:
            raise Ended("failed", "taken")
        self.rows[self.count] = row
        self.found[r] = self.count
        self.count += 1

    def do_delete(self, r):
        del self.rows[self.check(r)]

    def do_set(self, r, column, v):
        at = self.check(r)
        self.rows[at][column] = self.read(v)

    def do_clear(self, bounds, c):
        self.read_fields([*bounds, *all_values(c)])
        for at in self.met(bounds, c):
            del self.rows[at]

    def do_change(self, bounds, c, column, v):
        self.read_fields([*bounds, *all_values(c), v])
        new = {at: self.read(v, self.rows[at]) for at in self.met(bounds, c)}
        for at, number in new.items():
            self.rows[at][column] = number

    def do_move(self, v, k):
        key = self.read(v)
        low = [at for at in self.by_key() if self.rows[at]["key"] < key]
        high = [at for at in self.by_key() if self.rows[at]["key"] >= key]
        self.looked |= set(low[-1:] + high[:1])
        if low and high and self.rows[low[-1]]["key"] >= self.rows[high[0]]["key"] + k:
            raise Ended("failed", "order")
        for at in high:
            self.rows[at]["key"] += k

    def do_if(self, c, first, second):
        for statement in first if self.test(c) else second:
            self.do(statement)

    def do_fail(self, word):
        raise Ended("failed", word)

    def do_return(self, values):
        raise Ended("returned", [self.read(value) for value in values])


def modelled(columns, arguments, statements, rows, numbers):
    """The triple of the ending, the model behind the run, and the list of the tables that walk tells."""
    model = Model(columns, arguments, rows, numbers)
    tables = [model.table()]
    for statement in statements:
        try:
            model.do(statement)
        except Ended as ended:
            if ended.ending[0] == "returned":
                tables.append(model.table())
            return ended.ending, model, tables
        tables.append(model.table())
    return ("returned", []), model, tables


# ---- rules, said once more

def rule_read(value, own, behind):
    if value[0] == "plus":
        return rule_read(value[1], own, behind) + value[2]
    if value[0] == "number":
        return value[1]
    return {"own": own, "next": behind}[value[0]][value[1]]


def rule_holds(c, own, behind=None):
    """Whether a rule holds for rows that are dicts from columns to integers."""
    if c[0] in ("true", "not", "and", "or"):
        inner = [rule_holds(part, own, behind) for part in c[1:]]
        return {"true": True, "not": not all(inner), "and": all(inner), "or": any(inner)}[c[0]]
    left, right = [rule_read(value, own, behind) for value in c[1:]]
    return {"atmost": left <= right, "below": left < right, "same": left == right}[c[0]]


def all_broken(columns, rows, nexts, table):
    """The list of the pairs of the index of a rule and the place of a row for which it does not hold."""
    told = [dict(zip(columns, row)) for row in sorted(table)]
    found = [(index, at) for index, c in enumerate(rows) for at, own in enumerate(told) if not rule_holds(c, own)]
    return found + [(len(rows) + index, at) for index, c in enumerate(nexts)
                    for at, (own, behind) in enumerate(zip(told, told[1:])) if not rule_holds(c, own, behind)]


def shows_no_carrying(columns, rows, nexts, three):
    """Whether three rows with ascending keys show that next rules do not carry, by the very words of the document."""
    first, second, third = [dict(zip(columns, row)) for row in three]
    if not first["key"] < second["key"] < third["key"]:
        return False
    if not all(rule_holds(c, own) for c in rows for own in (first, second, third)):
        return False
    both = all(rule_holds(c, first, second) and rule_holds(c, second, third) for c in nexts)
    return both and not all(rule_holds(c, first, third) for c in nexts)


class RuleMaker(Maker):
    """Makes rules over some columns."""

    def value(self, own=False, fields=True):
        dice = self.dice
        single = dice.choice([("number", dice.randint(-1, 3)), (dice.choice(self.sides), dice.choice(self.columns)),
                              (dice.choice(self.sides), dice.choice(self.columns))])
        return ("plus", single, dice.randint(-2, 2)) if dice.random() < 0.25 else single

    def rule(self, sides, depth):
        self.sides = sides
        while True:
            rule = self.condition(True, depth)
            if "found" not in repr(rule):
                return rule

    def rules(self, rows, nexts, depth=2):
        """The lists of so many row rules and next rules."""
        first = [self.rule(("own",), depth) for _ in range(rows)]
        return first, [self.rule(("own", "next"), depth) for _ in range(nexts)]
