"""Questions, played by the very words of the document, on the runs of the tests' own model; and what to ask them of."""

import itertools

from helpers import Ended, Maker, Model, RuleMaker, all_broken, modelled
from lookedrows.errors import InvalidStatement, NotCarried
from lookedrows.meetings import Exchanged, Woven
from lookedrows.procedures import Procedure
from lookedrows.questions import Again, Alike, Keeps, Never, Twice, Undone
from lookedrows.rules import Rules

CLASSES = {"alike": Alike, "keeps": Keeps, "never": Never, "twice": Twice, "again": Again, "undone": Undone,
           "exchanged": Exchanged, "woven": Woven}
PAIRS = ("alike", "undone", "exchanged", "woven")
# How many runs of each procedure a question is about, and how many rows it has beside the looks.
RUNS = {"alike": 1, "keeps": 1, "never": 1, "twice": 2, "again": 3, "undone": 1, "exchanged": 2, "woven": 3}
BESIDE = {"alike": 1, "keeps": 2, "never": 0, "twice": 1, "again": 1, "undone": 1, "exchanged": 1, "woven": 2}


# ---- playing

def play(procedure, rows, known):
    """The pair of the ending and the rows behind a run."""
    numbers = [known[name] for name in procedure.arguments]
    ending, model, _ = modelled(procedure.columns, procedure.arguments, procedure.statements(), rows, numbers)
    return ending, (sorted(rows) if ending[0] == "failed" else model.table())


def all_weavings(one, other):
    """The ascending list of the strings of so many zeros and ones."""
    return ["".join(signs) for signs in itertools.product("01", repeat=one + other) if signs.count("0") == one]


def weave(one, other, weaving, rows, known):
    """The triple of both endings and the rows behind a weaving."""
    models = [Model(one.columns, procedure.arguments, rows, [known[name] for name in procedure.arguments])
              for procedure in (one, other)]
    # Both runs have the rows of the first one, and numbers for new rows that don't meet.
    models[1].rows, models[1].count = models[0].rows, 1000
    endings = [None, None]
    waiting = [one.statements(), other.statements()]
    for sign in weaving:
        side = int(sign)
        statement = waiting[side].pop(0)
        if endings[side] is None:
            try:
                models[side].do(statement)
            except Ended as ended:
                endings[side] = ended.ending
    first, second = [ending or ("returned", []) for ending in endings]
    return first, second, models[0].table()


def both_orders(one, other, rows, known):
    """The triples of both endings and the rows behind both procedures, in one order and in the other one."""
    first, behind = play(one, rows, known)
    second, last = play(other, behind, known)
    other_second, behind = play(other, rows, known)
    other_first, other_last = play(one, behind, known)
    return (first, second, last), (other_first, other_second, other_last)


def is_failing(topic, procedures, rules, rows, known, word=None):
    """Whether a question fails for some rows and the dict of the arguments."""
    one, other, rows = procedures[0], procedures[-1], sorted(rows)
    ending, behind = play(one, rows, known)
    if topic == "alike":
        return (ending, behind) != play(other, rows, known)
    if topic == "keeps":
        return all_broken(rules.columns, rules.rows(), rules.nexts(), behind) != []
    if topic == "never":
        return ending[0] == "failed" and word in (None, ending[1])
    if topic == "twice":
        return play(one, behind, known)[1] != behind
    if topic == "again":
        cut = [play(one.first(n), rows, known)[1] for n in range(len(one) + 1)]
        return any(play(one, table, known) != (ending, behind) for table in cut)
    if topic == "undone":
        return ending[0] == "returned" and (play(other, behind, known)[0][0] == "failed"
                                            or play(other, behind, known)[1] != rows)
    orders = both_orders(one, other, rows, known)
    if topic == "exchanged":
        return orders[0] != orders[1]
    return any(weave(one, other, weaving, rows, known) not in orders for weaving in all_weavings(len(one), len(other)))


def question_of(topic, procedures, word=None):
    """The question with a topic."""
    return Never(procedures[0], word=word) if topic == "never" else CLASSES[topic](*procedures)


# ---- making procedures that do something on most tables

class Worker(Maker):
    """Makes procedures that look for rows and then do something with them."""

    def plain(self, own=False, rows=()):
        dice = self.dice
        choice = [("number", dice.randint(-1, 5))] + [("name", name) for name in self.arguments] * 2
        choice += [("own", column) for column in self.columns] * (2 if own else 0)
        choice += [("field", name, column) for name in rows for column in self.columns]
        single = dice.choice(choice)
        return ("plus", single, dice.choice([-1, 1, 2])) if dice.random() < 0.2 else single

    def filter(self, rows=(), depth=2):
        dice = self.dice
        if depth > 1 and dice.random() < 0.3:
            form = dice.choice(["and", "or", "not"])
            return (form, *[self.filter(rows, depth - 1) for _ in range(1 if form == "not" else 2)])
        if dice.random() < 0.2:
            return ("true",)
        sides = [("own", dice.choice(self.columns)), self.plain(False, rows)]
        return (dice.choice(["atmost", "below", "same"]), *dice.sample(sides, 2))

    def range(self, rows=()):
        return tuple(None if self.dice.random() < 0.5 else self.plain(False, rows) for _ in range(2))

    def cells(self, rows=()):
        return tuple(self.plain(False, rows) for _ in self.columns)

    def action(self, rows=()):
        """A statement that changes something, mostly; it reads rows with these names alone."""
        dice = self.dice
        forms = ["insert", "clear", "move", "fail", "return"] + ["delete", "delete", "step"] * bool(rows)
        forms += (["change"] + ["set", "set"] * bool(rows)) * (len(self.columns) > 1)
        form = dice.choice(forms)
        name = dice.choice(rows or ("r",))
        if form == "insert":
            return ("insert", dice.choice(self.names), self.cells(rows))
        if form == "move":
            return ("move", self.plain(False, rows), dice.choice([-2, -1, 1, 2]))
        if form == "delete":
            return ("delete", name)
        if form == "step":
            return ("step", dice.choice(self.names), dice.choice(["next", "prior"]), name)
        if form == "set":
            return ("set", name, self.further(), self.plain(False, rows))
        if form == "change":
            return ("change", self.range(rows), self.filter(rows), self.further(), self.plain(True, rows))
        if form == "fail" and dice.random() < 0.4:
            return ("fail", dice.choice(["busy", "x"]))
        if form == "return" and dice.random() < 0.4:
            return ("return", tuple(self.plain(False, rows) for _ in range(dice.randint(0, 2))))
        return ("clear", self.range(rows), self.filter(rows))

    def actions(self, most, rows=()):
        return tuple(self.action(rows) for _ in range(self.dice.randint(0, most)))

    def step_of_work(self):
        """The list of one or two statements."""
        dice = self.dice
        kind = dice.random()
        if kind < 0.45:
            name = dice.choice(self.names)
            find = ("find", name, dice.choice(["first", "last"]), self.range(), self.filter())
            return [find, ("if", ("found", name), self.actions(2, (name,)), self.actions(1))]
        if kind < 0.55:
            test = (dice.choice(["atmost", "below", "same"]), self.plain(), self.plain())
            return [("if", test, self.actions(2), self.actions(1))]
        return [self.action()]

    def procedure(self, most_looks, most_steps=3):
        """A procedure with so many looks at most."""
        while True:
            steps = [self.step_of_work() for _ in range(self.dice.randint(1, most_steps))]
            try:
                made = Procedure(self.columns[1:], self.arguments, [each for step in steps for each in step])
            except InvalidStatement:
                continue
            if made.looks <= most_looks:
                return made

    def slightly_changed(self, procedure):
        """The procedure with a statement left out, put in or exchanged."""
        statements = procedure.statements()
        at = self.dice.randrange(len(statements) + 1)
        statements[at:at + self.dice.randrange(2)] = self.dice.choice([[], [self.action()], [self.action()]])
        return Procedure(self.columns[1:], procedure.arguments, statements[:12])


def some_rules(dice, columns):
    """Rules that carry."""
    while True:
        rows, nexts = RuleMaker(dice, columns=columns).rules(dice.randint(0, 2), dice.choice([0, 0, 1, 1, 2]),
                                                             dice.randint(1, 2))
        try:
            return Rules(columns, rows=rows, nexts=nexts)
        except NotCarried:
            continue


MOST_LOOKS = {"alike": 4, "keeps": 4, "never": 5, "twice": 3, "again": 2, "undone": 3, "exchanged": 2, "woven": 2}


def some_procedures(dice, topic, columns):
    """The list of one or two procedures to ask a question of: any ones, or the same one with a small change."""
    worker = Worker(dice, columns=columns, arguments=("a", "b")[:dice.randint(0, 2)], names=("r", "s"))
    one = worker.procedure(MOST_LOOKS[topic])
    if topic not in PAIRS:
        return [one]
    if dice.random() < 0.5:
        return [one, worker.slightly_changed(one)]
    worker.arguments = dice.choice([worker.arguments, ("b",), ("c", "a")])
    return [one, worker.procedure(MOST_LOOKS[topic])]


def grid_rows(columns, many, high):
    """All lists of so many rows with integers from 0 to below high."""
    cells = list(itertools.product(range(high), repeat=len(columns)))
    return [[(key, *more) for key, more in zip(keys, further)] for keys in itertools.combinations(range(high), many)
            for further in itertools.product(cells, repeat=many)]
