"""Needs: the statements that a procedure can spare, and the rules that a question needs."""

from itertools import combinations

from lookedrows.errors import ColumnsDiffer, NotCarried, TooWide
from lookedrows.questions import MOST_LOOKS, Alike


def spare(rules, procedure):
    """The ascending list of the indexes of statements that can be left out; raises ColumnsDiffer(), TooWide(12)."""
    if rules.columns != procedure.columns:
        raise ColumnsDiffer()
    if 2 * procedure.looks > MOST_LOOKS:
        raise TooWide(MOST_LOOKS)
    return [index for index in range(len(procedure)) if Alike(procedure, procedure.without(index)).ask(rules).holds]


def _some_rules(rules, indexes):
    """The rules with these indexes alone, or None if their next rules do not carry."""
    try:
        return rules.some(*indexes)
    except NotCarried:
        return None


def _contains_one(indexes, found):
    """Whether some indexes contain all those of a set that was found."""
    return any([all([index in indexes for index in least]) for least in found])


def _is_shown(question, rules, answers):
    """Whether a table of an earlier negative answer shows that the question fails for these rules, too."""
    for answer in answers:
        table, numbers = answer.table, answer.numbers
        if rules.keeps(table) and question.fails(rules, table, *numbers):
            return True
    return False


def least_rules(question, rules):
    """The least sets of rules for which the question holds, as ascending tuples of indexes; raises as ask."""
    whole = question.ask(rules)
    # Fewer rules let in more tables, but for keeps they ask for less, too.
    if not whole.holds and question.topic != "keeps":
        return []
    found = []
    answers = []
    for many in range(len(rules) + 1):
        for indexes in combinations(range(len(rules)), many):
            some = None if _contains_one(indexes, found) else _some_rules(rules, indexes)
            if some is not None and not _is_shown(question, some, answers):
                answer = question.ask(some)
                if answer.holds:
                    found.append(indexes)
                else:
                    answers.append(answer)
    return found
