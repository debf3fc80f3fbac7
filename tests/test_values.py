"""Names, columns and values, their texts, and shifted values."""

import copy
import inspect
import random
import string
import unittest

from helpers import (
    ALPHABET, BOUND, COLUMNS, NAMES, NUMBERS, RESERVED, SMALL_ALPHABET, WRONG, edits, letters_beside, right_name,
    right_value, singles, some_edit, some_value, value_of, values,
)
from lookedrows import values as module
from lookedrows.errors import InvalidText, InvalidValue
from lookedrows.values import is_name, is_value, read_value, shifted, value_text


class TestInterface(unittest.TestCase):

    def test_the_functions_and_their_arguments(self):
        wanted = {"is_name": ["value"], "is_value": ["value"], "value_text": ["value"], "read_value": ["text"],
                  "shifted": ["value", "k"]}
        for name, arguments in wanted.items():
            function = getattr(module, name)
            self.assertEqual(list(inspect.signature(function).parameters), arguments)
            self.assertEqual(function.__module__, "lookedrows.values")

    def test_arguments_may_be_passed_by_name(self):
        value = ("name", "a")
        self.assertEqual([is_name(value="a"), is_value(value=value), value_text(value=value)], [True, True, "a"])
        self.assertEqual([read_value(text="a"), shifted(value=value, k=0)], [value, value])


class TestNames(unittest.TestCase):

    def test_names(self):
        for name in (*NAMES, *string.ascii_lowercase, "aaaaaa", "zzzzzz", "tru"):
            self.assertIs(is_name(name), True, name)

    def test_words_that_are_no_names(self):
        for word in RESERVED:
            self.assertIs(is_name(word), False, word)

    def test_words_beside_those_that_are_no_names(self):
        for word in RESERVED:
            for other in letters_beside(word):
                wanted = 1 <= len(other) <= 6 and other not in RESERVED
                self.assertIs(is_name(other), wanted, other)

    def test_the_number_of_letters(self):
        self.assertEqual([is_name("a" * many) for many in range(9)], [False] + [True] * 6 + [False] * 2)
        self.assertIs(is_name("a" * 4000), False)

    def test_other_signs(self):
        for sign in ALPHABET:
            for text in (sign, "a" + sign, sign + "a", "a" + sign + "a"):
                self.assertIs(is_name(text), set(text) <= set(string.ascii_lowercase), text)

    def test_what_is_no_string(self):
        for thing in (0, 1, True, False, None, (), [], ("a",), ["a"], 10 ** 5000, ("a", ["b"])):
            self.assertIs(is_name(thing), False)


class TestIsValue(unittest.TestCase):

    def test_values_of_all_forms(self):
        for value in values():
            self.assertIs(is_value(value), True, value)

    def test_wrong_values(self):
        for thing in WRONG:
            self.assertIs(is_value(thing), False, thing)

    def test_the_bounds(self):
        for k, wanted in ((BOUND, True), (-BOUND, True), (BOUND + 1, False), (-BOUND - 1, False), (10 ** 5000, False)):
            self.assertIs(is_value(("number", k)), wanted, k)
            for single in (("number", 3), ("name", "a"), ("field", "r", "key"), ("own", "end"), ("next", "key")):
                self.assertIs(is_value(("plus", single, k)), wanted, (single, k))
            self.assertIs(is_value(("plus", ("number", k), 0)), wanted, k)

    def test_plus_of_each_form_but_plus(self):
        for single in singles():
            self.assertIs(is_value(("plus", single, 0)), True, single)
            self.assertIs(is_value(("plus", ("plus", single, 1), 1)), False, single)

    def test_reserved_words_in_the_places_of_names_and_columns(self):
        for word in RESERVED:
            self.assertIs(is_value(("name", word)), False)
            self.assertIs(is_value(("field", word, "end")), False)
            for value in (("field", "r", word), ("own", word), ("next", word)):
                self.assertIs(is_value(value), word == "key", value)
                self.assertIs(is_value(("plus", value, 1)), word == "key", value)

    def test_names_and_columns_that_differ_in_a_letter(self):
        for word in ("key", "own", "next", "end"):
            for other in letters_beside(word):
                self.assertIs(is_value(("name", other)), right_name(other), other)
                self.assertIs(is_value(("field", other, "end")), right_name(other), other)
                self.assertIs(is_value(("field", "r", other)), right_name(other), other)
                self.assertIs(is_value(("own", other)), right_name(other), other)
                self.assertIs(is_value((other, "end")), other == "name", other)

    def test_values_with_a_part_exchanged(self):
        fillings = (*WRONG, *RESERVED, "a", "end", 5, ("name", "a"), ("number", 0), ("own", "key"), "number", "name",
                    "field", "plus", ("plus", ("own", "key"), 1))
        for value in (("number", 3), ("name", "a"), ("field", "r", "end"), ("own", "key"), ("next", "a"),
                      ("plus", ("number", 1), 2), ("plus", ("name", "a"), -2), ("plus", ("field", "r", "key"), 0)):
            for at in range(len(value)):
                for filling in fillings:
                    other = value[:at] + (filling,) + value[at + 1:]
                    self.assertIs(is_value(other), right_value(other), other)
                    if value[0] == "plus":
                        within = ("plus", value[1][:at] + (filling,) + value[1][at + 1:], value[2])
                        self.assertIs(is_value(within), right_value(within), within)

    def test_tuples_of_another_length_and_lists(self):
        for value in (("number", 3), ("name", "a"), ("field", "r", "end"), ("own", "key"), ("next", "a"),
                      ("plus", ("name", "a"), -2)):
            for other in (value[:-1], value[1:], (*value, "a"), (*value, 1), (value,), list(value), (list(value),)):
                self.assertIs(is_value(other), False, other)
            if value[0] != "plus":
                for other in (value[:-1], (*value, "a"), list(value), (value,)):
                    self.assertIs(is_value(("plus", other, 1)), False, other)


class TestValueText(unittest.TestCase):

    def test_each_form(self):
        for value, text in (
            (("number", 0), "0"), (("number", 12), "12"), (("number", -12), "-12"), (("name", "a"), "a"),
            (("field", "r", "end"), "r.end"), (("field", "r", "key"), "r.key"), (("own", "key"), "own.key"),
            (("own", "end"), "own.end"), (("next", "key"), "next.key"), (("next", "end"), "next.end"),
            (("plus", ("name", "a"), 3), "a + 3"), (("plus", ("name", "a"), -3), "a - 3"),
            (("plus", ("name", "a"), 0), "a + 0"), (("plus", ("number", 5), 3), "5 + 3"),
            (("plus", ("number", -5), -3), "-5 - 3"), (("plus", ("own", "end"), 1), "own.end + 1"),
            (("plus", ("next", "key"), -1), "next.key - 1"),
            (("plus", ("field", "r", "end"), -2), "r.end - 2"),
            (("number", BOUND), "1" + "0" * 30), (("number", -BOUND), "-1" + "0" * 30),
            (("plus", ("name", "a"), BOUND), "a + 1" + "0" * 30), (("plus", ("name", "a"), -BOUND), "a - 1" + "0" * 30),
        ):
            self.assertEqual(value_text(value), text)
            self.assertEqual(read_value(text), value)

    def test_texts_are_read_back(self):
        texts = [value_text(value) for value in values()]
        self.assertEqual([read_value(text) for text in texts], values())
        self.assertEqual([value_of(text) for text in texts], values())
        self.assertEqual(len(set(texts)), len(texts))

    def test_read_values_hold_integers(self):
        for text in ("0", "1", "-1", "a + 0", "a + 1", "1 - 1"):
            value = read_value(text)
            while isinstance(value, tuple):
                value = value[-1]
            if not isinstance(value, str):
                self.assertIs(type(value), int)

    def test_what_is_no_value(self):
        for thing in (*WRONG, ("number", BOUND + 1), ("plus", ("own", "key"), -BOUND - 1)):
            before = copy.deepcopy(thing)
            with self.assertRaises(InvalidValue) as caught:
                value_text(thing)
            self.assertEqual(caught.exception.code, "InvalidValue")
            self.assertEqual(thing, before)


class TestReadValue(unittest.TestCase):

    def check(self, text):
        wanted = value_of(text)
        if wanted is None:
            with self.assertRaises(InvalidText, msg=repr(text)):
                read_value(text)
        else:
            value = read_value(text)
            self.assertEqual(value, wanted, repr(text))
            self.assertEqual(value_text(value), text)
            self.assertIs(is_value(value), True)

    def test_texts_of_no_value(self):
        for text in (
            "", " ", "-", "+", "-0", "+1", "00", "01", "-01", "--1", "1-", "1_0", " 1", "1 ", "1\n", "\n1", "1.5",
            "1e3",
            "0x1", "A", "key", "own", "next", "true", "and", "a b", "a ", " a", "a.", ".a", ".", "a.b.c", "a..b", "a.A",
            "A.a", "key.a", "set.a", "a.own", "own.own", "own.next", "next.not", "own.", "next.", "r.key.key", "1.a",
            "a.1", "a+1", "a +1", "a+ 1", "a  + 1", "a +  1", "a + ", "a +", "+ 1", "a + -1", "a - -1", "a - 0",
            "a + 01",
            "a - 01", "a + 00", "a * 1", "a + 1 + 1", "a + 1 - 1", "a + b", "1 + a", "a - ", "a -", "- 1", "a + 1 ",
            " a + 1", "a + 1\n", "a\n+ 1", "a + +1", "sevenso", "r.sevenso", "sevenso.r", "a = b", "(a)", "a + (1)",
            "1" + "0" * 29 + "1" + "0", "9" * 31, "9" * 4000, "-" + "9" * 4000, "9" * 5000, "a + " + "9" * 5000,
            "1" + "0" * 29 + "01", str(BOUND + 1), str(-BOUND - 1), f"a + {BOUND + 1}", f"a - {BOUND + 1}",
            f"{BOUND + 1} + 1", "0" * 31, "a" * 4000, "own.key - 0", "5 - 0", "a +\n1", "a + 1_0",
        ):
            self.assertIsNone(value_of(text))
            with self.assertRaises(InvalidText, msg=repr(text)) as caught:
                read_value(text)
            self.assertEqual(caught.exception.code, "InvalidText")

    def test_what_is_no_string(self):
        for thing in (*WRONG, ("number", 1), ("name", "a"), ["a"], ("a",), 5):
            if not isinstance(thing, str):
                with self.assertRaises(InvalidText, msg=repr(thing)):
                    read_value(thing)

    def test_other_digits_than_those_of_decimal_numbers(self):
        for text in ("\u0661", "a + \u0662", "\u00b2", "\uff11"):
            self.assertRaises(InvalidText, read_value, text)

    def test_texts_with_one_sign_changed(self):
        for value in (("number", 0), ("number", 10), ("number", -7), ("name", "an"), ("field", "r", "end"),
                      ("field", "ow", "ke"), ("own", "key"), ("next", "end"), ("plus", ("name", "a"), 10),
                      ("plus", ("name", "a"), -10), ("plus", ("number", -1), 0), ("plus", ("field", "r", "key"), -1),
                      ("plus", ("own", "key"), 1), ("plus", ("next", "key"), -1), ("number", BOUND), ("number", -BOUND),
                      ("plus", ("name", "a"), BOUND), ("plus", ("name", "a"), -BOUND), ("number", BOUND - 1)):
            for text in edits(value_text(value), ALPHABET):
                self.check(text)

    def test_texts_with_two_signs_changed(self):
        for text in ("0", "-1", "a", "a + 1", "a - 1", "r.a", "1 + 0"):
            for once in edits(text, SMALL_ALPHABET):
                for twice in edits(once, SMALL_ALPHABET):
                    self.check(twice)

    def test_long_texts_with_up_to_three_signs_changed(self):
        dice = random.Random(3)
        for _ in range(4000):
            text = value_text(some_value(dice))
            for _ in range(dice.randint(1, 3)):
                text = some_edit(dice, text, dice.choice([ALPHABET, SMALL_ALPHABET]))
            self.check(text)

    def test_reserved_words_in_texts(self):
        for word in RESERVED:
            for text in (word, f"{word}.end", f"r.{word}", f"own.{word}", f"next.{word}", f"{word} + 1"):
                self.check(text)
            for other in letters_beside(word):
                for text in (other, f"{other}.end", f"r.{other}", f"own.{other}", f"{other} - 1"):
                    self.check(text)


class TestShifted(unittest.TestCase):

    def test_numbers(self):
        self.assertEqual(shifted(("number", 5), 3), ("number", 8))
        self.assertEqual(shifted(("number", 5), -5), ("number", 0))
        self.assertEqual(shifted(("number", 5), 0), ("number", 5))
        self.assertEqual(shifted(("number", -BOUND), BOUND), ("number", 0))

    def test_plus_of_a_number_becomes_a_number(self):
        self.assertEqual(shifted(("plus", ("number", 5), 3), 2), ("number", 10))
        self.assertEqual(shifted(("plus", ("number", 5), 3), 0), ("number", 8))
        self.assertEqual(shifted(("plus", ("number", 5), 3), -3), ("number", 5))
        self.assertEqual(shifted(("plus", ("number", 5), 0), 0), ("number", 5))

    def test_other_values(self):
        for single in singles():
            if single[0] == "number":
                continue
            self.assertEqual(shifted(single, 0), single)
            self.assertEqual(shifted(single, 4), ("plus", single, 4))
            self.assertEqual(shifted(single, -4), ("plus", single, -4))
            self.assertEqual(shifted(("plus", single, 4), 3), ("plus", single, 7))
            self.assertEqual(shifted(("plus", single, 4), 0), ("plus", single, 4))
            self.assertEqual(shifted(("plus", single, 4), -4), single)
            self.assertEqual(shifted(("plus", single, -4), 4), single)
            self.assertEqual(shifted(("plus", single, 0), 0), single)
            self.assertEqual(shifted(("plus", single, 0), 9), ("plus", single, 9))
            self.assertEqual(shifted(("plus", single, BOUND), -BOUND), single)
            self.assertEqual(shifted(("plus", single, BOUND), -BOUND - 1), ("plus", single, -1))

    def test_several_shifts_one_behind_another(self):
        dice = random.Random(5)
        for _ in range(2000):
            value = some_value(dice)
            single, total = (value[1], value[2]) if value[0] == "plus" else (value, 0)
            if abs(total) > 1000 or (single[0] == "number" and abs(single[1]) > 1000):
                continue
            for _ in range(dice.randint(1, 6)):
                k = dice.choice([-total, dice.randint(-4, 4), 0])
                value, total = shifted(value, k), total + k
                self.assertIs(is_value(value), True)
                if single[0] == "number":
                    self.assertEqual(value, ("number", single[1] + total))
                else:
                    self.assertEqual(value, ("plus", single, total) if total else single)

    def test_a_sum_beyond_the_bounds_is_told_as_it_is(self):
        self.assertEqual(shifted(("number", BOUND), 1), ("number", BOUND + 1))
        self.assertEqual(shifted(("name", "a"), BOUND + 1), ("plus", ("name", "a"), BOUND + 1))
        self.assertEqual(shifted(("plus", ("own", "key"), -BOUND), -BOUND), ("plus", ("own", "key"), -2 * BOUND))
        with self.assertRaises(InvalidValue):
            shifted(shifted(("number", BOUND), 1), -1)

    def test_what_is_no_value(self):
        for thing in WRONG:
            for k in (0, 1, -1):
                with self.assertRaises(InvalidValue, msg=repr(thing)):
                    shifted(thing, k)

    def test_all_values_and_numbers(self):
        for value in values():
            for k in NUMBERS:
                before = copy.deepcopy(value)
                result = shifted(value, k)
                self.assertEqual(result, shifted(value, k))
                self.assertEqual(value, before)
                if result[0] == "plus":
                    self.assertNotEqual(result[1][0], "number")
                    self.assertNotEqual(result[2], 0)


class TestColumns(unittest.TestCase):

    def test_key_is_a_column_and_no_name(self):
        for column in COLUMNS:
            self.assertIs(is_value(("own", column)), True)
        self.assertIs(is_name("key"), False)
        self.assertIs(is_value(("name", "key")), False)
        self.assertIs(is_value(("field", "key", "key")), False)


class TestExamples(unittest.TestCase):

    def test_the_example_of_the_document(self):
        self.assertEqual(value_text(('plus', ('field', 'r', 'end'), -2)), 'r.end - 2')


if __name__ == "__main__":
    unittest.main()
