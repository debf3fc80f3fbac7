"""Verdicts: the answers to questions about all tables that keep rules."""

from lookedrows.cases import systems_of
from lookedrows.errors import InvalidCount
from lookedrows.values import is_whole


class Verdict:
    """The base class of the answers."""

    def __init__(self, question, rules):
        self._question = question
        self._rules = rules

    @property
    def question(self):
        """The question that is answered."""
        return self._question

    @property
    def rules(self):
        """The rules that the tables keep."""
        return self._rules

    @property
    def holds(self):
        """Whether the answer is known to be positive."""
        return False

    def told(self):
        """The word of the answer."""
        return "unknown"

    def __repr__(self):
        return f"Verdict({self.told()})"


class Yes(Verdict):
    """The positive answer, with cases for each number of rows up to the breadth of the question."""

    @property
    def holds(self):
        """The answer is positive."""
        return True

    def told(self):
        """The word of the answer."""
        return "yes"

    def cases(self, many):
        """The list of the systems of the cases for tables of so many rows; raises InvalidCount(many)."""
        if not is_whole(many) or not 0 <= many <= self._question.breadth:
            raise InvalidCount(many)
        return systems_of(self._rules, many)


class No(Verdict):
    """The negative answer, with a table and arguments for which the question fails."""

    def __init__(self, question, rules, table, numbers):
        super().__init__(question, rules)
        self._table = table
        self._numbers = tuple(numbers)

    @property
    def holds(self):
        """The answer is negative."""
        return False

    @property
    def table(self):
        """The table, which has the fewest rows."""
        return self._table

    @property
    def numbers(self):
        """The tuple of the arguments."""
        return self._numbers

    def told(self):
        """The word of the answer."""
        return "no"

    def shows(self):
        """Whether the table keeps the rules and the question fails for it and the arguments."""
        numbers = self._numbers
        return self._rules.keeps(self._table) and self._question.fails(self._rules, self._table, *numbers)
