import unittest
from itertools import product

from learnyard.errors import BadRules, BadState
from learnyard.finding import Finder, fewest_questions
from learnyard.rules import states
from tests import brute

CHOICE = (4, [(0, ()), (1, ()), (2, (0, 1)), (2, (3,)), (3, (0,))])
NEVER = (4, [(0, ()), (1, (0,)), (2, (3,)), (3, (2,))])
NO_THINGS = (-1, 4, 5, 999999999999999, -999999999999999)


class FinderTest(unittest.TestCase):
    def hold(self, finder, count, left):
        self.assertEqual(finder.left(), left)
        self.assertEqual(finder.question(), brute.question(count, left))

    def test_step_by_step(self):
        finder = Finder(CHOICE)
        self.assertEqual(finder.left(), states(CHOICE))
        # Five of nine states have 1, four have 3, seven have 0, three have 2: 1 is less than 3.
        self.assertEqual(finder.question(), 1)
        self.assertIsNone(finder.answer(1, False))
        self.assertEqual(finder.left(), [(), (0,), (0, 3), (0, 2, 3)])
        self.assertEqual(finder.question(), 3)
        self.assertIsNone(finder.answer(3, True))
        self.assertEqual(finder.left(), [(0, 3), (0, 2, 3)])
        self.assertEqual(finder.question(), 2)
        self.assertIsNone(finder.answer(2, True))
        self.assertEqual(finder.left(), [(0, 2, 3)])
        self.assertIsNone(finder.question())

    def test_an_answer_to_what_was_not_asked(self):
        finder = Finder(CHOICE)
        finder.answer(2, True)
        self.assertEqual(finder.left(), [(0, 1, 2), (0, 2, 3), (0, 1, 2, 3)])
        self.assertEqual(finder.question(), 1)

    def test_an_answer_that_is_known_already(self):
        finder = Finder(CHOICE)
        finder.answer(3, True)
        left = finder.left()
        # 0 is known by all who know 3, and 3 was answered before.
        finder.answer(0, True)
        finder.answer(3, True)
        self.assertEqual(finder.left(), left)
        finder = Finder(NEVER)
        finder.answer(2, False)
        self.assertEqual(finder.left(), [(), (0,), (0, 1)])

    def test_an_answer_when_one_state_is_left(self):
        finder = Finder((2, []))
        self.assertIsNone(finder.question())
        finder.answer(1, False)
        self.assertEqual(finder.left(), [()])
        self.assertRaises(BadState, finder.answer, 1, True)
        self.assertEqual(finder.left(), [()])

    def test_no_state_would_be_left(self):
        finder = Finder(CHOICE)
        finder.answer(3, True)
        for thing, has in ((0, False), (3, False)):
            self.assertRaises(BadState, finder.answer, thing, has)
            self.hold(finder, 4, [(0, 3), (0, 1, 3), (0, 2, 3), (0, 1, 2, 3)])
        finder = Finder(NEVER)
        self.assertRaises(BadState, finder.answer, 2, True)
        self.hold(finder, 4, [(), (0,), (0, 1)])

    def test_things_that_there_are_not(self):
        finder = Finder(CHOICE)
        finder.answer(1, False)
        for thing in NO_THINGS:
            for has in (True, False):
                self.assertRaises(BadState, finder.answer, thing, has)
                self.hold(finder, 4, [(), (0,), (0, 3), (0, 2, 3)])

    def test_no_things(self):
        finder = Finder((0, []))
        self.assertEqual(finder.left(), [()])
        self.assertIsNone(finder.question())
        for thing in (0, -1, 999999999999999):
            for has in (True, False):
                self.assertRaises(BadState, finder.answer, thing, has)
        self.assertEqual(finder.left(), [()])

    def test_two_finders_beside_each_other(self):
        one = Finder(CHOICE)
        other = Finder(CHOICE)
        third = Finder(NEVER)
        one.answer(2, True)
        self.assertEqual(other.left(), states(CHOICE))
        self.assertEqual(third.left(), states(NEVER))
        other.answer(0, False)
        self.assertEqual(one.left(), [(0, 1, 2), (0, 2, 3), (0, 1, 2, 3)])
        self.assertEqual(other.left(), [(), (1,)])
        self.assertEqual((one.question(), other.question(), third.question()), (1, 1, 0))

    def test_a_list_that_was_told_can_be_changed(self):
        finder = Finder(CHOICE)
        for turn in range(2):
            left = finder.left()
            expected = list(left)
            left.clear()
            finder.left().append((9,))
            self.hold(finder, 4, expected)
            finder.answer(1, False)

    def test_rules_that_were_handed_in_can_be_changed(self):
        handed = (CHOICE[0], list(CHOICE[1]))
        finder = Finder(handed)
        self.assertEqual(handed, CHOICE)
        handed[1].clear()
        self.hold(finder, 4, states(CHOICE))
        finder.answer(1, False)
        self.hold(finder, 4, [(), (0,), (0, 3), (0, 2, 3)])

    def test_every_answer_held_against_the_states(self):
        for rules in brute.every_rules(2) + brute.some_rules(3, 12, 36) + brute.some_rules(4, 4, 46):
            answers = list(product(range(rules[0]), (True, False)))
            for row in product(answers, repeat=3):
                finder = Finder(rules)
                left = brute.states(rules)
                for thing, has in row:
                    fitting = [state for state in left if (thing in state) is has]
                    if fitting:
                        left = fitting
                        self.assertIsNone(finder.answer(thing, has))
                    else:
                        self.assertRaises(BadState, finder.answer, thing, has)
                    self.hold(finder, rules[0], left)

    def test_questions_lead_to_each_state(self):
        for rules in brute.small_rules() + [brute.full_rules()]:
            for state in states(rules):
                finder = Finder(rules)
                while finder.question() is not None:
                    many = len(finder.left())
                    asked = finder.question()
                    finder.answer(asked, asked in state)
                    self.assertLess(len(finder.left()), many)
                self.assertEqual(finder.left(), [state])

    def test_bad_rules(self):
        for bad in ((11, []), (-1, []), (3, [(3, ())]), (3, [(0,)]), ()):
            self.assertRaises(BadRules, Finder, bad)


class FewestQuestionsTest(unittest.TestCase):
    def test_fewest_questions(self):
        self.assertEqual(fewest_questions((0, [])), 0)
        self.assertEqual(fewest_questions((10, [])), 0)
        self.assertEqual(fewest_questions((1, [(0, ())])), 1)
        self.assertEqual(fewest_questions(NEVER), 2)
        self.assertEqual(fewest_questions(CHOICE), 4)

    def test_one_behind_another(self):
        for count in range(1, 11):
            rules = (count, [(0, ())] + [(thing, (thing - 1,)) for thing in range(1, count)])
            self.assertEqual(fewest_questions(rules), count.bit_length())

    def test_all_free(self):
        for count in range(11):
            self.assertEqual(fewest_questions((count, [(thing, ()) for thing in range(count)])), count)

    def test_more_than_halving_would_need(self):
        # 27 states could be halved away by 5 questions, but each of three pairs needs 2 by itself.
        pairs = (6, [(0, ()), (1, (0,)), (2, ()), (3, (2,)), (4, ()), (5, (4,))])
        self.assertEqual(len(states(pairs)), 27)
        self.assertEqual(fewest_questions(pairs), 6)
        self.assertEqual(len(states(brute.full_rules())), 79)
        self.assertEqual(fewest_questions(brute.full_rules()), 10)

    def test_against_going_through_all(self):
        for rules in brute.small_rules() + brute.some_rules(5, 25, 57):
            expected = brute.fewest(brute.states(rules), frozenset(range(rules[0])))
            self.assertEqual(fewest_questions(rules), expected, rules)

    def test_asking_the_nearest_to_half_is_not_always_the_best(self):
        rules = (7, [(0, (2, 6)), (1, ()), (2, (1, 3, 6)), (3, ()), (4, (3,)), (5, (0, 3)), (6, (1, 3))])
        self.assertEqual(asked_from(7, states(rules)), 5)
        self.assertEqual(brute.fewest(states(rules), frozenset(range(7))), 4)
        self.assertEqual(fewest_questions(rules), 4)


def asked_from(count, left):
    if len(left) == 1:
        return 0
    return 1 + max(asked_from(count, side) for side in brute.sides(left, brute.question(count, left)))


if __name__ == "__main__":
    unittest.main()
