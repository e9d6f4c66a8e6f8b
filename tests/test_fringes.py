import unittest

from learnyard.errors import BadState
from learnyard.fringes import by_fringes, last_things, road
from learnyard.rules import next_things, states
from tests import brute

CHOICE = (4, [(0, ()), (1, ()), (2, (0, 1)), (2, (3,)), (3, (0,))])
NEVER = (4, [(0, ()), (1, (0,)), (2, (3,)), (3, (2,))])
FREE = (4, [(thing, ()) for thing in range(4)])
NO_STATES = ((1, 0), (1, 1), (-1,), (4,), (0, 4), (999999999999999,), (-999999999999999,), (2,), (3,), (1, 2), (1, 3))


class LastThingsTest(unittest.TestCase):
    def test_last_things(self):
        self.assertEqual(last_things(CHOICE, ()), [])
        self.assertEqual(last_things(CHOICE, (0, 3)), [3])
        self.assertEqual(last_things(CHOICE, (0, 1, 2)), [2])
        self.assertEqual(last_things(CHOICE, (0, 1, 2, 3)), [1, 2, 3])
        self.assertEqual(last_things((0, []), ()), [])

    def test_against_going_through_all(self):
        for rules in brute.small_rules():
            known_states = brute.states(rules)
            for state in known_states:
                self.assertEqual(last_things(rules, state), brute.last_things(known_states, state), (rules, state))

    def test_what_is_no_state(self):
        for state in NO_STATES:
            self.assertRaises(BadState, last_things, CHOICE, state)
        self.assertRaises(BadState, last_things, NEVER, (2, 3))


class ByFringesTest(unittest.TestCase):
    def test_each_state_is_told_back(self):
        for rules in brute.small_rules() + brute.some_rules(7, 3, 7):
            for state in states(rules):
                fringes = (last_things(rules, state), next_things(rules, state))
                self.assertEqual(by_fringes(rules, *fringes), state, (rules, fringes))

    def test_none_of_others(self):
        for rules in brute.small_rules()[-8:] + brute.some_rules(3, 20, 33):
            known_states = brute.states(rules)
            told = [(brute.last_things(known_states, state), brute.next_things(rules, state))
                    for state in known_states]
            for last in brute.every_set(min(rules[0], 3)):
                for later in brute.every_set(min(rules[0], 3)):
                    fringes = (list(last), list(later))
                    expected = known_states[told.index(fringes)] if fringes in told else None
                    self.assertEqual(by_fringes(rules, *fringes), expected, (rules, fringes))

    def test_none_of_things_that_there_are_not(self):
        self.assertIsNone(by_fringes(CHOICE, [4], []))
        self.assertIsNone(by_fringes(CHOICE, [], [0, 1, 999999999999999]))
        self.assertIsNone(by_fringes(CHOICE, [-1], [0, 1]))
        self.assertIsNone(by_fringes((0, []), [0], []))

    def test_nothing_at_all(self):
        self.assertEqual(by_fringes((0, []), [], []), ())
        self.assertEqual(by_fringes((3, []), [], []), ())
        self.assertIsNone(by_fringes(CHOICE, [], []))

    def test_the_same_things_in_another_order(self):
        self.assertEqual(by_fringes(CHOICE, [3, 1, 2], []), (0, 1, 2, 3))
        self.assertEqual(by_fringes(CHOICE, [], [1, 0]), ())

    def test_ten_things_with_very_many_ways(self):
        rules = brute.full_rules()
        self.assertEqual(by_fringes(rules, [4, 6], [5, 7, 8, 9]), (0, 1, 2, 3, 4, 6))


class RoadTest(unittest.TestCase):
    def test_things_more_the_least_first(self):
        self.assertEqual(road(FREE, (), (0, 1, 2)), [(), (0,), (0, 1), (0, 1, 2)])
        self.assertEqual(road(CHOICE, (), (0, 2, 3)), [(), (0,), (0, 3), (0, 2, 3)])

    def test_things_fewer_the_greatest_first(self):
        self.assertEqual(road(FREE, (0, 1, 2), ()), [(0, 1, 2), (0, 1), (0,), ()])
        self.assertEqual(road(CHOICE, (0, 2, 3), ()), [(0, 2, 3), (0, 3), (0,), ()])

    def test_first_more_then_fewer(self):
        self.assertEqual(road(CHOICE, (0, 3), (1,)), [(0, 3), (0, 1, 3), (0, 1), (1,)])
        self.assertEqual(road(CHOICE, (1,), (0, 3)), [(1,), (0, 1), (0, 1, 3), (0, 3)])
        self.assertEqual(road(FREE, (2, 3), (0, 1)),
                         [(2, 3), (0, 2, 3), (0, 1, 2, 3), (0, 1, 2), (0, 1)])

    def test_from_a_state_to_itself(self):
        for rules in (CHOICE, NEVER, (0, [])):
            for state in states(rules):
                self.assertEqual(road(rules, state, state), [state])

    def test_against_going_through_all(self):
        for rules in brute.small_rules():
            known_states = brute.states(rules)
            for one in known_states:
                for other in known_states:
                    found = road(rules, one, other)
                    self.assertEqual(found, brute.road(known_states, one, other), (rules, one, other))
                    self.assertEqual(len(found) - 1, len(set(one) ^ set(other)))

    def test_steps_on_ten_things(self):
        rules = brute.full_rules()
        one = (0, 1, 2, 3, 4, 5, 6)
        other = (0, 1, 2, 3, 7, 8, 9)
        steps = road(rules, one, other)
        known_states = states(rules)
        self.assertEqual((steps[0], steps[-1], len(steps)), (one, other, 7))
        for ahead, behind in zip(steps, steps[1:]):
            self.assertIn(behind, known_states)
            self.assertEqual(len(set(ahead) ^ set(behind)), 1)

    def test_what_is_no_state(self):
        for state in NO_STATES:
            self.assertRaises(BadState, road, CHOICE, state, ())
            self.assertRaises(BadState, road, CHOICE, (), state)
            self.assertRaises(BadState, road, CHOICE, state, state)


if __name__ == "__main__":
    unittest.main()
