import unittest
from itertools import product

from learnyard.errors import BadNumber, BadState
from learnyard.rows import how_many, is_row, row_at, shortest
from learnyard.rules import greatest, states
from tests import brute

CHOICE = (4, [(0, ()), (1, ()), (2, (0, 1)), (2, (3,)), (3, (0,))])
NEVER = (4, [(0, ()), (1, (0,)), (2, (3,)), (3, (2,))])
FREE = (10, [(thing, ()) for thing in range(10)])
NO_SETS = ((1, 0), (1, 1), (-1,), (4,), (0, 4), (999999999999999,), (-999999999999999,))


class IsRowTest(unittest.TestCase):
    def test_rows(self):
        for row in ([], [0], [0, 1, 2, 3], [0, 3, 2, 1], [1, 0, 3, 2]):
            self.assertIs(is_row(CHOICE, row), True)

    def test_lists_that_are_none(self):
        for row in ([2], [3, 0], [0, 2], [1, 3], [0, 0], [0, 1, 0], [0, 3, 3], [0, 1, 2, 3, 0]):
            self.assertIs(is_row(CHOICE, row), False)

    def test_things_that_there_are_not(self):
        for row in ([4], [-1], [0, 4], [2, 4], [0, 0, -1], [999999999999999], [-999999999999999]):
            self.assertRaises(BadState, is_row, CHOICE, row)
        self.assertRaises(BadState, is_row, (0, []), [0])

    def test_against_going_through_all(self):
        for rules in brute.every_rules(2) + brute.some_rules(3, 40, 30) + brute.some_rules(4, 20, 44):
            good = brute.rows(rules)
            for size in range(rules[0] + 2):
                for order in product(range(rules[0]), repeat=size):
                    self.assertIs(is_row(rules, list(order)), list(order) in good, (rules, order))


class RowAtTest(unittest.TestCase):
    def test_how_many(self):
        self.assertEqual(how_many(CHOICE, ()), 1)
        self.assertEqual(how_many(CHOICE, (0, 1)), 2)
        self.assertEqual(how_many(CHOICE, (0, 3)), 1)
        self.assertEqual(how_many(FREE, tuple(range(10))), 3628800)
        self.assertEqual(how_many((0, []), ()), 1)

    def test_row_at(self):
        self.assertEqual(row_at(CHOICE, (), 0), [])
        self.assertEqual(row_at(CHOICE, (0, 1), 1), [1, 0])
        self.assertEqual(row_at(FREE, tuple(range(10)), 0), list(range(10)))
        self.assertEqual(row_at(FREE, tuple(range(10)), 3628799), list(range(9, -1, -1)))
        self.assertEqual(row_at(FREE, tuple(range(10)), 362880), [1, 0, 2, 3, 4, 5, 6, 7, 8, 9])

    def test_ten_things_with_very_many_ways(self):
        rules = brute.full_rules()
        self.assertEqual(how_many(rules, tuple(range(10))), 24 * 720)
        self.assertEqual(row_at(rules, tuple(range(10)), 719), [0, 1, 2, 3, 9, 8, 7, 6, 5, 4])

    def test_against_going_through_all(self):
        for rules in brute.small_rules():
            rows = brute.rows(rules)
            for goal in states(rules):
                ordered = sorted(row for row in rows if tuple(sorted(row)) == goal)
                with self.subTest(rules=rules, goal=goal):
                    self.assertEqual(how_many(rules, goal), len(ordered))
                    self.assertEqual([row_at(rules, goal, number) for number in range(len(ordered))], ordered)

    def test_another_number(self):
        for goal in states(CHOICE):
            many = how_many(CHOICE, goal)
            for number in (-1, -999999999999999, many, many + 1, 999999999999999):
                self.assertRaises(BadNumber, row_at, CHOICE, goal, number)

    def test_what_is_no_state(self):
        for goal in NO_SETS + ((2,), (3,), (1, 2), (1, 3)):
            self.assertRaises(BadState, how_many, CHOICE, goal)
            self.assertRaises(BadState, row_at, CHOICE, goal, 0)
            self.assertRaises(BadState, row_at, CHOICE, goal, -1)
        self.assertRaises(BadState, how_many, NEVER, (2, 3))


class ShortestTest(unittest.TestCase):
    def test_the_least_of_several(self):
        self.assertEqual(shortest(CHOICE, (), (2,)), [0, 1, 2])
        self.assertEqual(shortest((3, [(0, ()), (1, ()), (2, (0,)), (2, (1,))]), (), (2,)), [0, 2])
        self.assertEqual(shortest(CHOICE, (), (0, 1)), [0, 1])

    def test_a_shorter_one_ahead_of_a_lesser_one(self):
        rules = (5, [(0, ()), (1, (0,)), (2, (1,)), (2, (3,)), (3, ())])
        self.assertEqual(shortest(rules, (), (2,)), [3, 2])

    def test_from_what_somebody_has(self):
        self.assertEqual(shortest(CHOICE, (0, 3), (2,)), [2])
        self.assertEqual(shortest(CHOICE, (1,), (2, 3)), [0, 2, 3])

    def test_nothing_lacking(self):
        self.assertEqual(shortest(CHOICE, (), ()), [])
        self.assertEqual(shortest(CHOICE, (0, 1), (1,)), [])
        self.assertEqual(shortest(NEVER, (0, 1), (0, 1)), [])

    def test_not_all_of_it_can_be_learnt(self):
        self.assertIsNone(shortest(NEVER, (), (2,)))
        self.assertIsNone(shortest(NEVER, (0,), (1, 3)))
        self.assertIsNone(shortest((1, []), (), (0,)))

    def test_what_is_no_state(self):
        for have in NO_SETS + ((2,), (3,), (1, 2), (1, 3)):
            self.assertRaises(BadState, shortest, CHOICE, have, ())
        for wished in NO_SETS:
            self.assertRaises(BadState, shortest, CHOICE, (), wished)
            self.assertRaises(BadState, shortest, NEVER, (0, 1), wished)

    def test_against_going_through_all(self):
        for rules in brute.small_rules():
            for have in states(rules):
                for wished in brute.every_set(rules[0]):
                    expected = brute.shortest(rules, have, wished)
                    self.assertEqual(shortest(rules, have, wished), expected, (rules, have, wished))
                    self.assertEqual(expected is None, not set(wished) <= set(greatest(rules)))


if __name__ == "__main__":
    unittest.main()
