"""What may stand in a procedure or a rule: values and conditions of some forms, over some columns and arguments."""

from lookedrows.conditions import values_in
from lookedrows.errors import InvalidCondition
from lookedrows.values import is_value


class Scope:
    """The columns and arguments of which values may speak."""

    def __init__(self, layout, given=()):
        self.layout = layout
        self.given = given

    def has_value(self, value, forms):
        """Whether any value is a value of one of these forms, also in a plus, over these columns and arguments."""
        if not is_value(value):
            return False
        single = value[1] if value[0] == "plus" else value
        if single[0] not in forms:
            return False
        if single[0] == "number":
            return True
        if single[0] == "name":
            return single[1] in self.given
        return single[-1] in self.layout

    def has_condition(self, condition, forms):
        """Whether any value is a condition with values of these forms alone."""
        try:
            inner = values_in(condition)
        except InvalidCondition:
            return False
        return all([self.has_value(value, forms) for value in inner])
