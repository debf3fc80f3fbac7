"""Plans: the acts by which it is seen that a question fails, as lookedrows.stages does them.

A further row at which no run looks can matter only if statements go over all rows, and then one such row is enough for
each thing that must be the case, two where neighbours matter. A plan tells how many of them may help.
"""

from lookedrows.statements import CHANGING, has_any, have_any, rows_given, rows_used, words_of

SWEEPING = ("clear", "change", "move")
SHIFTING = ("change", "move")
WRITING = ("insert", "set", "change", "move")


def _needed_behind(statement, later):
    """The list of the names of rows that are needed from a statement on, if these are needed behind it."""
    if statement[0] == "if":
        return [*later, *rows_used(statement)]
    given = rows_given(statement)
    return [*[name for name in later if name not in given], *rows_used(statement)]


def _do_all(slot, statements, later=()):
    """The list of the acts of statements, behind which the rows with these names are needed."""
    acts = []
    for statement in reversed(statements):
        # What an if does may be needed in it, too.
        needed = [*later, *rows_used(statement)] if statement[0] == "if" else later
        acts.append(("do", slot, statement, tuple(needed)))
        later = _needed_behind(statement, later)
    return acts[::-1]


def _needed_in(statements):
    """The list of the names of rows that are needed in statements, from ahead of them."""
    later = []
    for statement in reversed(statements):
        later = _needed_behind(statement, later)
    return later


def whole_run(slot, statements):
    """The list of the acts of a whole run."""
    return [("begin", slot), *_do_all(slot, statements), ("close", slot)]


def _further(*lists):
    """How many further rows may help to see that two tables differ, behind runs of these lists of statements."""
    return 1 if any([have_any(statements, SWEEPING) for statements in lists]) else 0


def _common(one, other):
    """The number of statements ahead that two lists have in common."""
    many = 0
    while many < min(len(one), len(other)) and one[many] == other[many]:
        many += 1
    return many


def alike_plans(one, other):
    """The plans of alike, for two lists of statements."""
    if one == other:
        return []
    many = _common(one, other)
    later = [*_needed_in(one[many:]), *_needed_in(other[many:])]
    return [[
        ("start",), ("begin", 0), *_do_all(0, one[:many], later), ("part", 0),
        *_do_all(0, one[many:]), ("close", 0), ("keep",),
        ("back", 0), *_do_all(0, other[many:]), ("close", 0), ("keep",),
        ("must", "unlike", _further(one, other), (0, 1), ((0, 1),)),
    ]]


def keeps_plans(statements, rules):
    """The plans of keeps."""
    if len(rules) == 0 or not have_any(statements, WRITING):
        return []
    # A row rule is broken by one row, a next rule by two; one of them may be a row that is looked at or new.
    further = 1 if have_any(statements, SHIFTING) else 0
    if rules.nexts():
        further += 1
    return [[("start",), *whole_run(0, statements), ("settle",), *_breaking(further)]]


def _breaking(further):
    """The list of the acts that lead on if the table breaks a rule now."""
    return [("keep",), ("must", "broken", further)]


def breaks_plan(statements):
    """The plan of keeps for a table that may break the rules already, so that it matters if the run fails, too."""
    return [("start",), *whole_run(0, statements), *_breaking(0)]


def _until_failing(statements, word):
    """The list of the statements up to the last one that can fail, with a certain word if one is told."""
    last = 0
    for index, statement in enumerate(statements):
        words = words_of(statement)
        if word in words or (word is None and words):
            last = index + 1
    return statements[:last]


def never_plans(statements, word):
    """The plans of never, with a certain word or with None."""
    needed = _until_failing(statements, word)
    if not needed:
        return []
    return [[("start",), *whole_run(0, needed), ("must", "failed", 0, word)]]


def twice_plans(statements):
    """The plans of twice."""
    if not have_any(statements, CHANGING):
        return []
    return [[("start",), *whole_run(0, statements), ("settle",), ("keep",), *whole_run(0, statements), ("keep",),
             ("must", "unlike", _further(statements), (0, 1), ())]]


def again_plans(statements):
    """The plans of again, one for each number of statements that are done alone."""
    # A statement that changes nothing leaves what those ahead of it leave.
    counts = [index + 1 for index, statement in enumerate(statements) if has_any(statement, CHANGING)]
    return [_again_plan(statements, many) for many in counts]


def _again_plan(statements, many):
    """The plan of again, where so many statements are done alone."""
    return [
        ("start",), ("begin", 0), *_do_all(0, statements[:many], _needed_in(statements[many:])), ("part", 0),
        *_do_all(0, statements[many:]), ("close", 0), ("keep",),
        ("back", 0), ("close", 0), ("settle",), *whole_run(0, statements), ("keep",),
        ("must", "unlike", _further(statements), (0, 1), ((0, 2),)),
    ]


def undone_plans(one, other):
    """The plans of undone."""
    return [[("start",), ("keep",), *whole_run(0, one), ("settle",), *whole_run(0, other), ("keep",),
             ("must", "lost", _further(one, other))]]


def exchanged_plans(one, other):
    """The plans of exchanged."""
    if not have_any([*one, *other], CHANGING):
        return []
    return [[
        ("start",), *whole_run(0, one), *whole_run(1, other), ("keep",),
        ("start",), *whole_run(1, other), *whole_run(0, one), ("keep",),
        ("must", "unlike", _further(one, other), (0, 1), ((0, 3), (1, 2))),
    ]]


def turns_of(one, other, weaving):
    """The list of the acts of two lists of statements in turns: 0 in the weaving stands for the first list."""
    first, second = _do_all(0, one)[::-1], _do_all(1, other)[::-1]
    acts = []
    for sign in weaving:
        acts.append(first.pop() if sign == "0" else second.pop())
    return acts


def woven_plans(one, other, weavings):
    """The plans of woven, one for each weaving of two lists of statements that may lead anywhere else."""
    if not have_any([*one, *other], CHANGING):
        return []
    settled = {"0" * len(one) + "1" * len(other): True, "1" * len(other) + "0" * len(one): True}
    found = []
    for weaving in weavings:
        form = _plain_form(one, other, weaving)
        if form not in settled:
            settled[form] = True
            if form[0] == "0":
                found.append(_woven_plan(one, other, form))
            else:
                mirrored = "".join(["1" if sign == "0" else "0" for sign in form])
                found.append(_woven_plan(other, one, mirrored))
    return found


def _plain_form(one, other, weaving):
    """A weaving that leads to the same as this one: turns without a change are exchanged as far as they can be."""
    turns = []
    for act in turns_of(one, other, weaving):
        turns.append((act[1], has_any(act[2], CHANGING)))
    for _ in range(len(turns)):
        for at in range(len(turns) - 1):
            first, second = turns[at], turns[at + 1]
            if first[0] > second[0] and not first[1] and not second[1]:
                turns[at] = second
                turns[at + 1] = first
    return "".join([str(slot) for slot, _ in turns])


def _woven_plan(one, other, weaving):
    """The plan of woven for a weaving that begins with the first list."""
    ahead = weaving.index("1")
    further = _further(one, other)
    acts = _do_all(0, one)
    return [
        ("start",), ("begin", 0), *acts[:ahead], ("part", 0),
        *acts[ahead:], ("close", 0), *whole_run(1, other), ("keep",),
        ("back", 0), ("begin", 1), *turns_of(one, other, weaving)[ahead:], ("end", 0), ("end", 1), ("keep",),
        ("must", "unlike", further, (0, 1), ((0, 2), (1, 3))),
        ("start",), *whole_run(1, other), *whole_run(0, one), ("keep",),
        ("must", "unlike", further, (2, 1), ((5, 2), (4, 3))),
    ]


def ending_plan(statements):
    """The plan of all that leads to the end of a run, whichever it is, for what can fail alone."""
    return [("start",), *whole_run(0, _until_failing(statements, None))]
