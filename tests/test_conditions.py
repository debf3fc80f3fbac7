"""Conditions, their texts and their parts."""

import copy
import inspect
import random
import types
import unittest

from helpers import (
    ALPHABET, BOUND, RESERVED, SMALL_ALPHABET, WRONG, condition_of, edits, exchanged, first_wrong, letters_beside,
    right_name, some_condition, some_conditions, some_edit, values,
)
from lookedrows import conditions as module
from lookedrows.conditions import all_of, condition_text, parts, read_condition, values_in
from lookedrows.errors import InvalidCondition, InvalidText

TRUE = ("true",)
A_BELOW_B = ("below", ("name", "a"), ("name", "b"))


def all_parts(condition, path=()):
    """The pairs (path, part) in the order of the text, told once more."""
    found = [(path, condition)]
    if condition[0] in ("not", "and", "or"):
        for at in range(1, len(condition)):
            found += all_parts(condition[at], (*path, at))
    return found


def nested(depth, form="not"):
    """A condition of this depth."""
    condition = TRUE
    for _ in range(depth - 1):
        condition = ("not", condition) if form == "not" else (form, A_BELOW_B, condition)
    return condition


class TestInterface(unittest.TestCase):

    def test_the_functions_and_their_arguments(self):
        wanted = {"condition_text": ["condition"], "read_condition": ["text"], "parts": ["condition"],
                  "values_in": ["condition"], "all_of": ["conditions"]}
        for name, arguments in wanted.items():
            function = getattr(module, name)
            self.assertEqual(list(inspect.signature(function).parameters), arguments)
            self.assertEqual(function.__module__, "lookedrows.conditions")

    def test_arguments_may_be_passed_by_name(self):
        self.assertEqual(condition_text(condition=TRUE), "true")
        self.assertEqual(read_condition(text="true"), TRUE)
        self.assertEqual(list(parts(condition=TRUE)), [((), TRUE)])
        self.assertEqual(values_in(condition=TRUE), [])


class TestTexts(unittest.TestCase):

    def test_each_form(self):
        for condition, text in (
            (TRUE, "true"),
            (("atmost", ("name", "a"), ("number", -3)), "a <= -3"),
            (("below", ("own", "key"), ("plus", ("name", "a"), -3)), "own.key < a - 3"),
            (("same", ("field", "r", "end"), ("plus", ("next", "key"), 0)), "r.end = next.key + 0"),
            (("found", "r"), "found r"),
            (("not", TRUE), "not true"),
            (("not", A_BELOW_B), "not a < b"),
            (("not", ("not", ("found", "r"))), "not not found r"),
            (("and", TRUE, ("found", "r")), "(true and found r)"),
            (("or", ("found", "r"), TRUE), "(found r or true)"),
            (("and", ("not", TRUE), TRUE), "(not true and true)"),
            (("not", ("and", TRUE, TRUE)), "not (true and true)"),
            (("or", ("and", TRUE, A_BELOW_B), ("not", ("or", TRUE, TRUE))), "((true and a < b) or not (true or true))"),
        ):
            self.assertEqual(condition_text(condition), text)
            self.assertEqual(read_condition(text), condition)
            self.assertEqual(condition_of(text), condition)

    def test_values_of_all_forms_are_read_back(self):
        for value in values():
            for condition in (("atmost", value, ("own", "end")), ("below", ("number", 1), value),
                              ("same", value, value)):
                text = condition_text(condition)
                self.assertEqual(read_condition(text), condition)
                self.assertEqual(condition_of(text), condition)

    def test_conditions_of_one_to_six_levels_are_read_back(self):
        for condition in some_conditions(1, 150):
            text = condition_text(condition)
            self.assertEqual(condition_of(text), condition)
            self.assertEqual(read_condition(text), condition)
            self.assertEqual(condition_text(read_condition(text)), text)

    def test_the_widest_condition_is_read_back(self):
        condition = ("same", ("plus", ("field", "sixsix", "zzzzzz"), -BOUND), ("number", -BOUND))
        for form in ("and", "or", "and", "or", "and"):
            condition = (form, condition, condition)
        self.assertEqual(read_condition(condition_text(condition)), condition)
        self.assertEqual(len(list(parts(condition))), 63)

    def test_the_depth(self):
        for form in ("not", "and", "or"):
            for depth in range(1, 7):
                self.assertEqual(read_condition(condition_text(nested(depth, form))), nested(depth, form))

    def test_the_examples_of_the_document(self):
        self.assertEqual(
            read_condition('(own.key < a and not found r)'),
            ('and', ('below', ('own', 'key'), ('name', 'a')), ('not', ('found', 'r'))))
        with self.assertRaises(InvalidCondition) as caught:
            condition_text(('and', ('true',), ('found', 'R')))
        self.assertEqual(caught.exception.path, (2,))


class TestInvalidConditions(unittest.TestCase):

    def check(self, condition):
        """All functions that take one condition raise the error, with the path that is told once more here."""
        path = first_wrong(condition)
        before = copy.deepcopy(condition)
        for function in (condition_text, lambda c: next(parts(c)), lambda c: list(parts(c)), values_in):
            if path is None:
                function(condition)
                continue
            with self.assertRaises(InvalidCondition, msg=repr(condition)) as caught:
                function(condition)
            self.assertEqual(caught.exception.path, path, condition)
            self.assertIs(type(caught.exception.path), tuple)
            self.assertEqual(caught.exception.code, "InvalidCondition")
        self.assertEqual(condition, before)
        return path

    def test_wrong_things(self):
        for thing in WRONG:
            self.check(thing)
            self.check(("not", thing))
            self.check(("and", TRUE, thing))
            self.check(("or", thing, TRUE))

    def test_wrong_paths_written_out(self):
        for condition, path in (
            (None, ()), ((), ()), (["true"], ()), (("not", None), (1,)), (("not",), ()), (("and", TRUE), ()),
            (("and", TRUE, 5), (2,)), (("and", 5, 5), (1,)), (("or", TRUE, ["true"]), (2,)),
            (("and", ("not", ("or", TRUE, "true")), None), (1, 1, 2)),
            (("and", ("not", TRUE), ("not", ("or", ("true", 1), None))), (2, 1, 1)),
            (("not", ("same", ("name", "a"), ("name", "A"))), (1,)),
            (("found", "key"), ()), (("not", ("found", 1)), (1,)), (("true", "true"), ()),
            (("below", ("number", BOUND + 1), ("number", 0)), ()),
            (("not", ("atmost", ("number", 0), ("plus", ("own", "key"), -BOUND - 1))), (1,)),
        ):
            self.assertEqual(first_wrong(condition), path)
            self.check(condition)

    def test_only_things_that_are_wrong_by_themselves_count(self):
        for thing in (("not", None), ("and", None, None), ("or", 1, [])):
            self.assertNotEqual(self.check(thing), ())

    def test_conditions_with_one_part_exchanged(self):
        dice = random.Random(2)
        for condition in some_conditions(3, 12):
            for path, _ in all_parts(condition):
                for thing in dice.sample(WRONG, 12):
                    self.check(exchanged(condition, path, thing))

    def test_conditions_with_one_item_exchanged(self):
        dice = random.Random(4)
        for condition in some_conditions(5, 12):
            for path, part in all_parts(condition):
                for at in range(len(part)):
                    thing = dice.choice(WRONG)
                    self.check(exchanged(condition, path, part[:at] + (thing,) + part[at + 1:]))
                    self.check(exchanged(condition, path, part[:at] + part[at + 1:]))
                self.check(exchanged(condition, path, (*part, dice.choice(part))))
                self.check(exchanged(condition, path, list(part)))

    def test_conditions_with_two_parts_exchanged(self):
        dice = random.Random(6)
        for condition in some_conditions(7, 40):
            for _ in range(10):
                first, second = [dice.choice(all_parts(condition))[0] for _ in range(2)]
                once = exchanged(condition, first, dice.choice(WRONG))
                if second[:len(first)] != first:
                    once = exchanged(once, second, dice.choice(WRONG))
                self.check(once)

    def test_values_exchanged_in_both_places(self):
        for thing in WRONG:
            for condition in (("same", thing, ("name", "a")), ("same", ("name", "a"), thing), ("same", thing, thing)):
                self.assertEqual(self.check(("and", TRUE, condition)), (2,))

    def test_forms_that_are_written_otherwise(self):
        for form in ("true", "atmost", "below", "same", "found", "not", "and", "or"):
            for other in (*letters_beside(form), form.upper(), form + " ", [form], (form,), None, 1, True):
                self.check((other,))
                self.check((other, TRUE))
                self.check((other, "r"))
                self.check((other, TRUE, TRUE))
                self.check((other, ("name", "a"), ("name", "a")))

    def test_names_of_found_rows(self):
        for name in (*RESERVED, "r", "R", "", "sevenso", "a1", 1, None, True, ("name", "r"), ["r"]):
            self.assertEqual(self.check(("found", name)) is None, right_name(name), name)

    def test_conditions_that_are_too_deep(self):
        for depth in (7, 8, 9, 20, 2000):
            self.assertEqual(self.check_deep(nested(depth)), (1,) * 6)
            self.assertEqual(self.check_deep(nested(depth, "and")), (2, 2, 2, 2, 2, 1))
            self.assertEqual(self.check_deep(("or", nested(depth - 1), None)), (1,) * 6)
            self.assertEqual(self.check_deep(("or", None, nested(depth - 1))), (1,))

    def check_deep(self, condition):
        found = []
        for function in (condition_text, lambda c: next(parts(c)), values_in):
            with self.assertRaises(InvalidCondition) as caught:
                function(condition)
            found.append(caught.exception.path)
        self.assertEqual(found, found[:1] * 3)
        return found[0]

    def test_the_seventh_part_is_wrong_whatever_it_is(self):
        for seventh in (TRUE, A_BELOW_B, None, 5, "true", ["true"], ("not", TRUE), ("found", "R")):
            condition = seventh
            for _ in range(6):
                condition = ("and", condition, TRUE)
            self.assertEqual(self.check(condition), (1,) * 6)

    def test_too_deep_conditions_of_all_forms(self):
        dice = random.Random(8)
        for _ in range(200):
            condition = some_condition(dice, dice.randint(7, 9))
            self.assertEqual(len(self.check(condition)), 6)


class TestReadCondition(unittest.TestCase):

    def check(self, text):
        wanted = condition_of(text)
        if wanted is None:
            with self.assertRaises(InvalidText, msg=repr(text)):
                read_condition(text)
        else:
            self.assertEqual(read_condition(text), wanted, repr(text))
            self.assertEqual(condition_text(wanted), text)

    def test_texts_of_no_condition(self):
        for text in (
            "", " ", "\n", "True", "true ", " true", "true\n", "\ntrue", "truetrue", "true true", "(true)", "()", "(",
            ")",
            "not", "not ", "nottrue", "not  true", "not(true and true)", "not true ", "found", "found ", "found R",
            "found key", "found true", "found  r", "found r ", "found r s", "found r.end", "found sevenso", "not found",
            "true and true", "(true and true", "true and true)", "((true and true))", "(true and true) ",
            "( true and true)", "(true and true )", "(true  and true)", "(true and  true)", "(true xor true)",
            "(true and true and true)", "(true and true or true)", "(true and)", "(and true)", "(true and true))",
            "(true and true)(", "(true and true) )", "((true and true)", "(true,true)", "(a and b)", "(true an true)",
            "a", "a <", "< a", "a < ", " < a", "a<b", "a <b", "a< b", "a  < b", "a <  b", "a < b ", " a < b", "a > b",
            "a >= b", "a == b", "a => b", "a =< b", "a < = b", "a != b", "a < b < c", "a < b c", "a + 1 < ", "a + < b",
            "a - 0 < b", "a + b < c", "a + 1 + 1 < b", "a < b + 1 + 1", "key < a", "own < a", "true < a", "not < a",
            "found < a", "a < true", "a < found r", "a < not b", "a and b < c", "A < b", "01 < a", "-0 < a", "+1 < a",
            "own.own < a", "a < next.set", "not a", "not a <", "(a < b)", "(a < b) and true", "(a < (b and c))",
            f"a < {BOUND + 1}", f"a < b - {BOUND + 1}", "a < " + "9" * 5000, "not " * 1000 + "true",
            "not " * 6 + "true",
            "(" * 4000, "(" * 1000 + "true" + " and true)" * 1000, "(" * 6 + "true" + " and true)" * 6,
            "(true and " * 6 + "true" + ")" * 6, "not " * 5 + "(true and true)",
        ):
            self.assertIsNone(condition_of(text), repr(text))
            with self.assertRaises(InvalidText, msg=repr(text)) as caught:
                read_condition(text)
            self.assertEqual(caught.exception.code, "InvalidText")

    def test_what_is_no_string(self):
        for thing in (*WRONG, TRUE, A_BELOW_B, ["true"], ("true",), 5, None):
            if not isinstance(thing, str):
                with self.assertRaises(InvalidText, msg=repr(thing)):
                    read_condition(thing)

    def test_texts_at_the_bounds_of_the_depth(self):
        for text in ("not " * 5 + "true", "(" * 5 + "true" + " and a < b)" * 5, "(true or " * 5 + "true" + ")" * 5,
                     "not " * 4 + "(true and found r)"):
            self.assertEqual(condition_text(read_condition(text)), text)
            self.check("not " + text)
            self.check(f"({text} and true)")
            self.check(f"(true and {text})")

    def test_texts_with_one_sign_changed(self):
        for text in ("true", "a < b", "a <= b", "a = -1", "found r", "not true", "(true and true)", "(a = b or true)",
                     "own.key + 1 < next.end - 1", "not (found r and not 0 <= a)", "((true or true) and not true)"):
            for other in edits(text, ALPHABET):
                self.check(other)

    def test_texts_with_two_signs_changed(self):
        for text in ("true", "a < b", "a = 1", "not true"):
            for once in edits(text, SMALL_ALPHABET):
                for twice in edits(once, SMALL_ALPHABET):
                    self.check(twice)

    def test_long_texts_with_up_to_two_signs_changed(self):
        dice = random.Random(9)
        for condition in some_conditions(10, 150):
            text = condition_text(condition)
            for _ in range(8):
                alphabet = dice.choice([ALPHABET, SMALL_ALPHABET])
                once = some_edit(dice, text, alphabet)
                self.check(once)
                self.check(some_edit(dice, once, alphabet))

    def test_texts_with_words_changed(self):
        dice = random.Random(11)
        words = ("true", "not", "and", "or", "found", "r", "a", "<", "<=", "=", "+", "-", "0", "1", "(", ")", "",
                 "own.key")
        for condition in some_conditions(12, 150):
            text = condition_text(condition).split(" ")
            for _ in range(6):
                at = dice.randrange(len(text) + 1)
                behind = at + dice.randrange(3)
                filling = [dice.choice(words) for _ in range(dice.randrange(3))]
                self.check(" ".join(text[:at] + filling + text[behind:]))

    def test_short_texts_of_all_words(self):
        words = ("true", "not", "and", "found", "r", "a", "<", "+", "1", "(true", "true)", "")
        texts = [""]
        for _ in range(4):
            texts = [f"{text} {word}" if text else word for text in texts for word in words]
            for text in texts:
                self.check(text)


class TestParts(unittest.TestCase):

    def test_the_order_of_the_pairs(self):
        condition = ("or", ("and", TRUE, ("not", A_BELOW_B)), ("found", "r"))
        self.assertEqual(list(parts(condition)), [
            ((), condition), ((1,), ("and", TRUE, ("not", A_BELOW_B))), ((1, 1), TRUE), ((1, 2), ("not", A_BELOW_B)),
            ((1, 2, 1), A_BELOW_B), ((2,), ("found", "r")),
        ])

    def test_one_part(self):
        for condition in (TRUE, A_BELOW_B, ("found", "r")):
            self.assertEqual(list(parts(condition)), [((), condition)])

    def test_conditions_of_one_to_six_levels(self):
        for condition in some_conditions(13, 60):
            self.assertEqual(list(parts(condition)), all_parts(condition))

    def test_parts_is_a_generator(self):
        self.assertIsInstance(parts(TRUE), types.GeneratorType)
        self.assertIsNot(parts(TRUE), parts(TRUE))

    def test_the_error_is_raised_for_the_first_pair(self):
        for wrong, path in ((None, ()), (("and", TRUE, ("not", 5)), (2, 1)), (nested(7), (1,) * 6)):
            pairs = parts(wrong)
            with self.assertRaises(InvalidCondition) as caught:
                next(pairs)
            self.assertEqual(caught.exception.path, path)

    def test_equal_calls_have_equal_results(self):
        condition = some_condition(random.Random(14), 6)
        self.assertEqual(list(parts(condition)), list(parts(condition)))
        first = parts(condition)
        next(first)
        self.assertEqual(next(parts(condition)), ((), condition))
        self.assertEqual(next(first), all_parts(condition)[1])


class TestValuesIn(unittest.TestCase):

    def test_none_one_and_several(self):
        self.assertEqual(values_in(TRUE), [])
        self.assertEqual(values_in(("not", ("found", "r"))), [])
        self.assertEqual(values_in(A_BELOW_B), [("name", "a"), ("name", "b")])
        plus = ("plus", ("own", "end"), 2)
        condition = ("and", ("or", A_BELOW_B, TRUE), ("not", ("same", plus, ("number", 0))))
        self.assertEqual(values_in(condition), [("name", "a"), ("name", "b"), plus, ("number", 0)])

    def test_the_same_value_twice_is_told_twice(self):
        condition = ("and", ("same", ("name", "b"), ("name", "b")), ("atmost", ("name", "b"), ("name", "a")))
        self.assertEqual(values_in(condition), [("name", "b"), ("name", "b"), ("name", "b"), ("name", "a")])

    def test_conditions_of_one_to_six_levels(self):
        for condition in some_conditions(15, 60):
            wanted = [value for _, part in all_parts(condition) if part[0] in ("atmost", "below", "same")
                      for value in part[1:]]
            self.assertEqual(values_in(condition), wanted)

    def test_the_list_is_new(self):
        first = values_in(A_BELOW_B)
        first.append(5)
        self.assertEqual(values_in(A_BELOW_B), [("name", "a"), ("name", "b")])
        self.assertIs(type(values_in(TRUE)), list)


class TestAllOf(unittest.TestCase):

    def test_none_one_and_several(self):
        one, two, three = ("found", "r"), A_BELOW_B, ("not", TRUE)
        self.assertEqual(all_of(), ("true",))
        self.assertEqual(all_of(one), one)
        self.assertEqual(all_of(one, two), ("and", one, two))
        self.assertEqual(all_of(one, two, three), ("and", one, ("and", two, three)))
        self.assertEqual(all_of(three, two, one, one), ("and", three, ("and", two, ("and", one, one))))

    def test_true_is_no_exception(self):
        self.assertEqual(all_of(TRUE), TRUE)
        self.assertEqual(all_of(TRUE, TRUE), ("and", TRUE, TRUE))
        self.assertEqual(all_of(("found", "r"), TRUE), ("and", ("found", "r"), TRUE))

    def test_conjunctions_in_it_stay_as_they_are(self):
        both = ("and", TRUE, A_BELOW_B)
        self.assertEqual(all_of(both, both), ("and", both, both))

    def test_as_many_as_the_depth_bears_and_more(self):
        self.assertEqual(all_of(*[TRUE] * 6), read_condition("(true and " * 5 + "true" + ")" * 5))
        deep = all_of(*[TRUE] * 7)
        with self.assertRaises(InvalidCondition) as caught:
            condition_text(deep)
        self.assertEqual(caught.exception.path, (2, 2, 2, 2, 2, 1))

    def test_very_many(self):
        whole = all_of(*[("found", "r")] * 400)
        for _ in range(399):
            self.assertEqual(whole[:2], ("and", ("found", "r")))
            whole = whole[2]
        self.assertEqual(whole, ("found", "r"))

    def test_conditions_of_one_to_six_levels(self):
        conditions = some_conditions(16, 3)
        whole = all_of(*conditions)
        for condition in conditions[:-1]:
            self.assertEqual(whole[:2], ("and", condition))
            whole = whole[2]
        self.assertEqual(whole, conditions[-1])


if __name__ == "__main__":
    unittest.main()
