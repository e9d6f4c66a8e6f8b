import unittest

from learnyard.errors import BadRules, BadState, Unlike
from learnyard.joining import behind, cut, joined
from learnyard.paths import paths
from learnyard.rules import greatest, look_rules, states
from tests import brute

CHOICE = (4, [(0, ()), (1, ()), (2, (0, 1)), (2, (3,)), (3, (0,))])
NEVER = (4, [(0, ()), (1, (0,)), (2, (3,)), (3, (2,))])
FREE = (4, [(thing, ()) for thing in range(4)])
NO_SETS = ((1, 0), (1, 1), (-1,), (-1, 0), (4,), (0, 4), (999999999999999,), (-999999999999999,))
BAD = (("a thing too large", (3, [(3, ())])), ("eleven things", (11, [])), ("a way twice", (3, [(0, ()), (0, ())])),
       ("needs itself", (4, [(0, (0,))])), ("a way of three", (4, [(0, (), ())])))


class MadeTest(unittest.TestCase):
    def hold(self, made, count, expected):
        self.assertIsNone(look_rules(made))
        self.assertEqual(made[0], count)
        self.assertEqual(paths(made), made)
        self.assertEqual(states(made), [things for things in brute.every_set(count) if things in expected])
        self.assertEqual(len(states(made)), len(set(expected)))


class JoinedTest(MadeTest):
    def test_joined(self):
        one = (3, [(0, ()), (1, (0,))])
        other = (3, [(1, ()), (2, (1,))])
        self.assertEqual(joined(one, other), (3, [(0, ()), (1, ()), (2, (1,))]))
        self.assertEqual(joined(one, (3, [])), paths(one))
        self.assertEqual(joined((0, []), (0, [])), (0, []))

    def test_ways_of_both_together_would_be_too_much(self):
        # 1 comes behind 0 by the one rules, 0 comes by the other alone: nobody who learns by either gets to 1.
        one = (2, [(1, (0,))])
        other = (2, [(0, ())])
        self.assertEqual(joined(one, other), (2, [(0, ())]))

    def test_things_that_can_never_be_learnt(self):
        self.assertEqual(joined(NEVER, NEVER), (4, [(0, ()), (1, (0,))]))
        self.assertEqual(joined(NEVER, (4, [(3, ())])), (4, [(0, ()), (1, (0,)), (3, ())]))

    def test_ten_things(self):
        rules = brute.full_rules()
        free = (10, [(thing, ()) for thing in range(10)])
        self.assertEqual(joined(rules, free), free)
        self.assertEqual(joined(free, rules), free)
        self.assertEqual(joined(rules, rules), paths(rules))

    def test_against_going_through_all(self):
        for many in (brute.every_rules(0), brute.every_rules(1), brute.every_rules(2),
                     brute.some_rules(3, 20, 35), brute.some_rules(4, 12, 45) + [CHOICE, NEVER]):
            for one in many:
                for other in many:
                    expected = [tuple(sorted(set(state) | set(added)))
                                for state in brute.states(one) for added in brute.states(other)]
                    self.hold(joined(one, other), one[0], expected)

    def test_rules_of_other_counts(self):
        self.assertRaises(Unlike, joined, CHOICE, (3, []))
        self.assertRaises(Unlike, joined, (3, []), CHOICE)
        self.assertRaises(Unlike, joined, (0, []), (10, []))

    def test_bad_rules_ahead_of_unlike(self):
        for what, bad in BAD:
            with self.subTest(what=what):
                self.assertRaises(BadRules, joined, bad, (5, []))
                self.assertRaises(BadRules, joined, (5, []), bad)
                self.assertRaises(BadRules, joined, bad, bad)


class CutTest(MadeTest):
    def test_cut(self):
        # 2 comes behind 0 and 1, or behind 3, which comes behind 0: without 3 it comes behind 0.
        self.assertEqual(cut(CHOICE, (0, 1, 2)), (4, [(0, ()), (1, ()), (2, (0,))]))
        self.assertEqual(cut(CHOICE, (2, 3)), (4, [(2, ()), (3, ())]))

    def test_to_nothing_and_to_everything(self):
        for rules in (CHOICE, NEVER, FREE):
            self.assertEqual(cut(rules, ()), (4, []))
            self.assertEqual(cut(rules, (0, 1, 2, 3)), paths(rules))
            self.assertEqual(cut(rules, greatest(rules)), paths(rules))
        self.assertEqual(cut((0, []), ()), (0, []))

    def test_to_a_set_that_is_no_state(self):
        self.assertEqual(cut(NEVER, (1, 2, 3)), (4, [(1, ())]))
        self.assertEqual(cut(NEVER, (2, 3)), (4, []))

    def test_ten_things(self):
        made = cut(brute.full_rules(), (0, 1, 8, 9))
        self.assertEqual(made, (10, [(0, ()), (1, ()), (8, (0, 1)), (9, (0, 1))]))

    def test_against_going_through_every_set(self):
        for rules in brute.small_rules():
            known_states = brute.states(rules)
            for things in brute.every_set(rules[0]):
                expected = [tuple(thing for thing in state if thing in things) for state in known_states]
                self.hold(cut(rules, things), rules[0], expected)

    def test_what_is_no_set(self):
        for things in NO_SETS:
            self.assertRaises(BadState, cut, CHOICE, things)
        self.assertRaises(BadState, cut, (0, []), (0,))
        self.assertRaises(BadState, cut, (10, []), (10,))

    def test_bad_rules_ahead_of_bad_state(self):
        for what, bad in BAD:
            with self.subTest(what=what):
                self.assertRaises(BadRules, cut, bad, ())
                self.assertRaises(BadRules, cut, bad, (99, -1))


class BehindTest(MadeTest):
    def test_behind(self):
        self.assertEqual(behind(CHOICE, (0,)), (4, [(1, ()), (2, (1,)), (2, (3,)), (3, ())]))
        self.assertEqual(behind(CHOICE, (0, 1)), (4, [(2, ()), (3, ())]))

    def test_behind_nothing_and_behind_the_greatest(self):
        for rules in (CHOICE, NEVER, FREE):
            self.assertEqual(behind(rules, ()), paths(rules))
            self.assertEqual(behind(rules, greatest(rules)), (4, []))
        self.assertEqual(behind((0, []), ()), (0, []))

    def test_ten_things(self):
        self.assertEqual(behind(brute.full_rules(), (0, 1, 2, 3, 9)), (10, [(thing, ()) for thing in range(4, 9)]))

    def test_against_going_through_every_set(self):
        for rules in brute.small_rules():
            known_states = brute.states(rules)
            for things in brute.every_set(rules[0]):
                if things in known_states:
                    expected = [tuple(thing for thing in state if thing not in things)
                                for state in known_states if set(things) <= set(state)]
                    self.hold(behind(rules, things), rules[0], expected)
                else:
                    self.assertRaises(BadState, behind, rules, things)

    def test_what_is_no_state(self):
        for state in NO_SETS + ((2,), (3,), (1, 2), (1, 3)):
            self.assertRaises(BadState, behind, CHOICE, state)
        self.assertRaises(BadState, behind, NEVER, (2, 3))
        self.assertRaises(BadState, behind, NEVER, (0, 1, 2, 3))
        self.assertRaises(BadState, behind, (0, []), (0,))

    def test_bad_rules_ahead_of_bad_state(self):
        for what, bad in BAD:
            with self.subTest(what=what):
                self.assertRaises(BadRules, behind, bad, ())
                self.assertRaises(BadRules, behind, bad, (99, -1))


if __name__ == "__main__":
    unittest.main()
