"""Tests of lookedrows.systems."""

import itertools
import random
import unittest

from helpers import WRONG, grid, least_sums, right_unknown, solves, some_comparisons
from lookedrows.errors import InvalidComparison, NotOpen, TableError
from lookedrows.systems import System

RIGHT_UNKNOWNS = ("", "a", "zzzzzz", "price", "0.key", "0.end", "7.key", "10.a", "123456789012345678901234567890.key")
WRONG_UNKNOWNS = (
    "key", "own", "A", "sevenll", "a1", "a b", " a", "a\n", "0", "1", ".", ".key", "0.", "00.key", "01.key", "007.end",
    "-1.key", "+1.key", " 1.key", "1 .key", "1.Key", "1.own", "1.next", "1.sevenll", "1.key.key", "1..key", "1.",
    "a.key",
    "1.key ", "1.0", "1.key\n", "1_0.key", "1e.key", "own.key", "x.0", "0x1.key", "0,key",
)
WRONG_COMPARISONS = tuple(("a", wrong, 0) for wrong in WRONG_UNKNOWNS) + tuple(
    (wrong, "", 0) for wrong in WRONG_UNKNOWNS) + tuple(
    (wrong, "a", 1) for wrong in (True, False, None, 0, 1, (), [], ("a",), ["a"], [""])) + tuple(
    ("a", wrong, 1) for wrong in (True, False, None, 0, 1, (), [], ("a",), ["a"], [""])) + tuple(
    ("a", "b", wrong) for wrong in (True, False, None, "", "1", "a", (), (1,), [1])) + (
    ["a", "b", 1], ("a", "b"), ("a", "b", 1, 1), (), ("a",), "a", "", "ab1", 1, 0, None, True, False, [],
    [("a", "b", 1)],
    (("a", "b", 1),), ("a", 1, "b"), (1, "a", "b"))
GREAT = 10 ** 30


class TestMaking(unittest.TestCase):

    def test_comparisons_without_repeated_ones(self):
        rows = [("a", "b", 1), ("", "a", 0), ("a", "b", 1), ("a", "b", 2), ("0.key", "", -3), ("", "a", 0)]
        system = System(rows)
        self.assertEqual(system.comparisons(), [("a", "b", 1), ("", "a", 0), ("a", "b", 2), ("0.key", "", -3)])
        self.assertEqual(len(system), 4)
        self.assertEqual(system.unknowns(), ["0.key", "a", "b"])
        self.assertEqual(System(tuple(rows)).comparisons(), system.comparisons())
        self.assertEqual(System(comparisons=rows).comparisons(), system.comparisons())

    def test_without_comparisons(self):
        for system in (System(), System([]), System(())):
            self.assertEqual(system.comparisons(), [])
            self.assertEqual(system.unknowns(), [])
            self.assertEqual(len(system), 0)
            self.assertEqual(system.told(), "true")
            self.assertEqual(repr(system), "System(true)")
            self.assertIs(system.is_open, True)
            self.assertIsNone(system.ring())
            self.assertEqual(system.example(), {})
            self.assertEqual(system.outside(), [])

    def test_unknowns_ascend_as_strings(self):
        system = System([("b", "10.key", 0), ("2.key", "a", 0), ("", "a", 0), ("", "", 0), ("0.a", "0.key", 1)])
        self.assertEqual(system.unknowns(), ["0.a", "0.key", "10.key", "2.key", "a", "b"])
        self.assertEqual(System([("", "", 5)]).unknowns(), [])

    def test_told(self):
        for comparison, text in (
            (("a", "b", 0), "a <= b"), (("a", "b", 1), "a <= b + 1"), (("a", "b", -1), "a <= b - 1"),
            (("", "b", 12), "0 <= b + 12"), (("a", "", -34), "a <= 0 - 34"), (("a", "", 0), "a <= 0"),
            (("", "", 0), "0 <= 0"), (("0.key", "12.price", -GREAT), f"0.key <= 12.price - {GREAT}"),
            (("a", "a", GREAT ** 3), f"a <= a + {GREAT ** 3}"),
        ):
            self.assertEqual(System([comparison]).told(), text)
            self.assertEqual(repr(System([comparison])), f"System({text})")
        system = System([("a", "b", -1), ("b", "a", 0), ("a", "b", -1), ("", "c", 2)])
        self.assertEqual(system.told(), "a <= b - 1 and b <= a and 0 <= c + 2")
        self.assertEqual(repr(system), "System(a <= b - 1 and b <= a and 0 <= c + 2)")

    def test_right_unknowns(self):
        for unknown in RIGHT_UNKNOWNS:
            self.assertTrue(right_unknown(unknown))
            self.assertEqual(System([(unknown, "b", 0)]).comparisons(), [(unknown, "b", 0)])
            self.assertEqual(System([("b", unknown, 0)]).comparisons(), [("b", unknown, 0)])
        for unknown in WRONG_UNKNOWNS:
            self.assertFalse(right_unknown(unknown), unknown)

    def test_wrong_comparisons_at_any_place(self):
        for wrong in WRONG_COMPARISONS:
            for ahead in (0, 1, 3):
                rows = [("a", "b", 0), ("a", "b", 0), ("", "0.key", GREAT)][:ahead] + [wrong, ("a", "b", 1), None]
                with self.assertRaises(InvalidComparison) as caught:
                    System(rows)
                self.assertEqual(caught.exception.index, ahead, wrong)
                self.assertEqual(caught.exception.code, "InvalidComparison")
                self.assertIsInstance(caught.exception, TableError)

    def test_all_short_texts_as_unknowns(self):
        signs = "01.ak\n"
        for many in range(5):
            for letters in itertools.product(signs, repeat=many):
                text = "".join(letters)
                if right_unknown(text):
                    self.assertEqual(len(System([(text, "b", 0)])), 1)
                else:
                    with self.assertRaises(InvalidComparison):
                        System([(text, "b", 0)])

    def test_no_list(self):
        for wrong in ("", "a", "abc", 0, 7, True, False, None):
            with self.assertRaises(InvalidComparison) as caught:
                System(wrong)
            self.assertEqual(caught.exception.index, 0)
        for wrong in WRONG:
            if type(wrong) in (list, tuple) and wrong:
                with self.assertRaises(InvalidComparison) as caught:
                    System(wrong)
                self.assertEqual(caught.exception.index, 0)

    def test_lists_are_copied_and_new(self):
        rows = [("a", "b", -1)]
        system = System(rows)
        rows.append(("b", "a", 0))
        self.assertEqual(system.comparisons(), [("a", "b", -1)])
        self.assertTrue(system.is_open)
        system.comparisons().append(("b", "a", 0))
        system.unknowns().append("c")
        system.example()["a"] = 99
        system.outside().append(None)
        self.assertEqual(system.comparisons(), [("a", "b", -1)])
        self.assertEqual(system.unknowns(), ["a", "b"])
        self.assertTrue(solves(system.example(), system.comparisons()))
        self.assertEqual(len(system.outside()), 1)
        self.assertEqual(rows, [("a", "b", -1), ("b", "a", 0)])


def samples(seed, many):
    """Lists of comparisons, small and great, some of them rings through up to five unknowns."""
    dice = random.Random(seed)
    found = [[("a", "a", k)] for k in (-1, 0, 1)] + [[("", "", k)] for k in (-1, 0, 1)]
    for size in range(1, 6):
        for total in (-1, 0, -GREAT, GREAT):
            names = ["a", "", "0.key", "3.end", "b"][:size]
            steps = [dice.randint(-GREAT, GREAT) for _ in names[1:]]
            ring = list(zip(names, names[1:] + names[:1], steps + [total - sum(steps)]))
            dice.shuffle(ring)
            found += [ring, ring + [("c", "a", 5), ("a", "d", -5), ("d", "c", 0)], [("c", "d", 1)] + ring]
    for _ in range(many):
        unknowns = ["", "a", "b", "0.key", "1.end", "c"][:dice.randint(1, 6)]
        most = dice.choice([1, 2, 5, GREAT])
        found.append(some_comparisons(dice, unknowns, dice.randint(0, 9), most))
    return found


class TestOpen(unittest.TestCase):

    def check_ring(self, system):
        ring, rows = system.ring(), system.comparisons()
        self.assertIsInstance(ring, tuple)
        self.assertEqual(len(set(ring)), len(ring))
        chosen = [rows[at] for at in ring]
        for at in ring:
            self.assertIs(type(at), int)
            self.assertGreaterEqual(at, 0)
        for one, behind in zip(chosen, chosen[1:] + chosen[:1]):
            self.assertEqual(one[1], behind[0])
        self.assertLess(sum(k for _, _, k in chosen), 0)

    def test_open_and_ring(self):
        seen = set()
        for rows in samples(1, 3000):
            system = System(rows)
            self.assertIs(system.is_open, least_sums(rows) is not None, rows)
            seen.add(system.is_open)
            if system.is_open:
                self.assertIsNone(system.ring())
                self.assertTrue(solves(system.example(), rows))
            else:
                self.check_ring(system)
                seen.add(len(system.ring()))
        self.assertLessEqual({True, False, 1, 2, 3, 4, 5}, seen)

    def test_a_long_ring(self):
        names = [f"{at}.key" for at in range(400)]
        ring = [(one, behind, 1) for one, behind in zip(names, names[1:] + names[:1])]
        self.assertTrue(System(ring).is_open)
        self.assertEqual(System(ring).least(names[0], names[-1]), 399)
        ring[7] = (*ring[7][:2], -400)
        for rows in (ring, ring[::-1]):
            system = System(rows)
            self.assertFalse(system.is_open)
            self.check_ring(system)
            self.assertEqual(len(system.ring()), 400)

    def test_against_a_grid(self):
        dice = random.Random(2)
        for _ in range(400):
            rows = some_comparisons(dice, ["", "a", "b"], dice.randint(1, 5), 2)
            # Least integers of a solution come from a way of at most two comparisons.
            found = any(solves(point, rows) for point in grid(["a", "b"], -4, 4))
            self.assertIs(System(rows).is_open, found, rows)

    def test_example(self):
        for rows in samples(3, 1500):
            system = System(rows)
            if system.is_open:
                example = system.example()
                self.assertEqual(sorted(example), system.unknowns())
                self.assertTrue(all(type(k) is int for k in example.values()))
                self.assertTrue(solves(example, rows))
                self.assertIn(example, system)
            else:
                self.assertRaises(NotOpen, system.example)


class TestLeast(unittest.TestCase):

    def test_all_pairs(self):
        for rows in samples(4, 1500):
            system, sums = System(rows), least_sums(rows)
            asked = ["", "a", "b", "0.key", "1.end", "c", "3.end", "zz", "9.key"]
            for left, right in itertools.product(asked, repeat=2):
                if sums is None:
                    self.assertRaises(NotOpen, system.least, left, right)
                elif left == right:
                    self.assertEqual(system.least(left, right), 0)
                else:
                    self.assertEqual(system.least(left, right), sums.get((left, right)), (rows, left, right))

    def test_by_name(self):
        self.assertEqual(System([("a", "b", 7)]).least(right="b", left="a"), 7)
        self.assertIsNone(System([("a", "b", 7)]).least("b", "a"))
        self.assertIsNone(System([("a", "b", 7)]).least("a", ""))

    def test_not_open(self):
        system = System([("a", "a", -1)])
        for left, right in (("a", "a"), ("", ""), ("b", "b"), ("a", "b")):
            with self.assertRaises(NotOpen) as caught:
                system.least(left, right)
            self.assertEqual(caught.exception.code, "NotOpen")
            self.assertIsInstance(caught.exception, TableError)


class TestOn(unittest.TestCase):

    def test_chosen_unknowns(self):
        dice = random.Random(5)
        for _ in range(250):
            rows = some_comparisons(dice, ["", "a", "b", "0.key"], dice.randint(0, 6), 2)
            system = System(rows)
            for many in range(4):
                chosen = dice.sample(["a", "b", "0.key"], many)
                if not system.is_open:
                    self.assertRaises(NotOpen, system.on, chosen)
                    continue
                there = {tuple(point[u] for u in chosen) for point in grid(["a", "b", "0.key"], -6, 6)
                         if solves(point, rows)}
                told = system.on(chosen)
                self.assertLessEqual(set(told.unknowns()), set(chosen))
                for point in grid(chosen, -2, 2):
                    whole = {u: 0 for u in chosen} | point
                    self.assertEqual(whole in told, tuple(whole[u] for u in chosen) in there, (rows, chosen, point))

    def test_kinds_of_lists(self):
        system = System([("a", "c", 1), ("c", "b", 2), ("c", "", 5), ("", "a", -4)])
        for chosen in (["a", "b"], ("a", "b"), ["b", "a", "a", "b"], ["a", "b", ""], ["a", "b", "zz", "4.key"]):
            before = list(chosen)
            told = system.on(chosen)
            self.assertEqual(list(chosen), before)
            self.assertEqual(told, System([("a", "b", 3), ("a", "", 6), ("", "a", -4), ("", "b", -1)]))
            self.assertLessEqual(set(told.unknowns()), {"a", "b"})
        self.assertEqual(system.on([]).unknowns(), [])
        self.assertEqual(system.on(unknowns=["c"]), System([("c", "", 5), ("", "c", -3)]))
        self.assertEqual(len(system.comparisons()), 4)

    def test_comparisons_in_a_fixed_order(self):
        system = System([(left, right, 1) for left, right in itertools.permutations(["c", "a", "", "b", "0.key"], 2)])
        sides = sorted(["", "0.key", "a", "b", "c"])
        for chosen in itertools.permutations(["a", "b", "c", "0.key"]):
            expected = [(left, right, 1) for left, right in itertools.permutations(sides, 2)]
            self.assertEqual(system.on(chosen).comparisons(), expected)

    def test_great_integers(self):
        rows = [("a", "b", GREAT), ("b", "c", GREAT), ("c", "", -GREAT ** 2)]
        self.assertEqual(System(rows).on(["a"]), System([("a", "", 2 * GREAT - GREAT ** 2)]))


class TestMeeting(unittest.TestCase):

    def pairs(self, seed):
        dice = random.Random(seed)
        for _ in range(300):
            yield [some_comparisons(dice, ["", "a", "b"], dice.randint(0, 4), 2) for _ in range(2)]

    def test_outside(self):
        closed = 0
        for rows, _ in self.pairs(6):
            system = System(rows)
            closed += not system.is_open
            others = system.outside()
            self.assertIsInstance(others, list)
            for other in others:
                self.assertIsInstance(other, System)
                self.assertLessEqual(set(other.unknowns()), set(system.unknowns()))
            for point in grid(["a", "b"], -5, 5):
                self.assertEqual(sum(point in other for other in [system, *others]), 1, (rows, point))
        self.assertGreater(closed, 20)

    def test_outside_of_great_integers(self):
        system = System([("a", "", GREAT), ("", "a", -GREAT)])
        for k, inside in ((GREAT - 1, False), (GREAT, True), (GREAT + 1, False), (-GREAT, False)):
            self.assertEqual({"a": k} in system, inside)
            self.assertEqual(sum({"a": k} in other for other in system.outside()), not inside)

    def test_both_together(self):
        for one, other in self.pairs(7):
            both = System(one) & System(other)
            self.assertIsInstance(both, System)
            self.assertEqual(both.comparisons(), list(dict.fromkeys(one + other)))
            for point in grid(["a", "b"], -3, 3):
                self.assertEqual(point in both, solves(point, one) and solves(point, other))
            self.assertEqual(System(one).comparisons(), list(dict.fromkeys(one)))

    def test_within_and_equal(self):
        seen = set()
        for one, other in self.pairs(8):
            first, second = System(one), System(other)
            # One is within the other if it and the contrary of a comparison of the other one are never open.
            inside = [all(least_sums(rows + [(right, left, -k - 1)]) is None for left, right, k in others)
                      for rows, others in ((one, other), (other, one))]
            inside = [inside[0] or least_sums(one) is None, inside[1] or least_sums(other) is None]
            self.assertIs(first.within(second), inside[0], (one, other))
            self.assertIs(second.within(first), inside[1], (one, other))
            self.assertIs(first == second, all(inside), (one, other))
            self.assertIs(first != second, not all(inside), (one, other))
            seen.add((tuple(inside), first.is_open, second.is_open))
        self.assertGreaterEqual(len(seen), 7)

    def test_within_and_equal_by_hand(self):
        closed = [System([("a", "a", -1)]), System([("a", "b", -1), ("b", "a", 0)]), System([("", "", -5)])]
        for one in closed:
            for other in [*closed, System(), System([("a", "b", 0)])]:
                self.assertTrue(one.within(other))
        self.assertTrue(closed[0] == closed[1] == closed[2])
        self.assertFalse(System().within(closed[0]))
        self.assertFalse(System() == closed[0])
        self.assertTrue(System([("a", "b", 0)]).within(System()))
        self.assertTrue(System([("a", "a", 0), ("b", "b", 7)]) == System())
        self.assertTrue(System([("a", "b", 0), ("b", "c", 0)]).within(System([("a", "c", 0)])))
        self.assertFalse(System([("a", "b", 0), ("b", "c", 0)]).within(System([("a", "c", -1)])))
        self.assertFalse(System([("a", "b", 0)]).within(System([("b", "a", 0)])))
        self.assertFalse(System([("a", "b", 0)]).within(System([("x", "y", 0)])))
        self.assertTrue(System([("a", "b", 0), ("b", "a", 0)]) == System([("b", "a", 0), ("a", "b", 0), ("a", "b", 1)]))
        self.assertFalse(System([("a", "", GREAT)]) == System([("a", "", GREAT + 1)]))
        for other in (None, 0, "true", [], [("a", "b", 0)]):
            self.assertFalse(System([("a", "b", 0)]) == other)
            self.assertTrue(System([("a", "b", 0)]) != other)

    def test_numbers_in(self):
        system = System([("a", "0.key", -1), ("", "a", 0)])
        self.assertIn({"a": 0, "0.key": 1}, system)
        self.assertIn({"a": GREAT ** 2, "0.key": GREAT ** 2 + 1}, system)
        self.assertIn({"a": 0, "0.key": 1, "b": 7, "1.end": -1}, system)
        self.assertNotIn({"a": 1, "0.key": 1}, system)
        self.assertNotIn({"a": -1, "0.key": 1}, system)
        self.assertNotIn({"a": 0}, system)
        self.assertNotIn({"0.key": 1}, system)
        self.assertNotIn({}, system)
        self.assertIn({}, System())
        self.assertIn({"a": 5}, System())
        # An unknown must be there, even where its integer doesn't matter.
        self.assertNotIn({}, System([("a", "a", 0)]))
        self.assertIn({"a": 3}, System([("a", "a", 0)]))
        self.assertNotIn({"a": 3}, System([("a", "a", -1)]))
        numbers = {"a": 0, "0.key": 1}
        self.assertIs(numbers in system, True)
        self.assertEqual(numbers, {"a": 0, "0.key": 1})


if __name__ == "__main__":
    unittest.main()
