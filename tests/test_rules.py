import unittest

from learnyard.errors import BadRules, BadState
from learnyard.finding import Finder, fewest_questions
from learnyard.fringes import by_fringes, last_things, road
from learnyard.joining import behind, cut, joined
from learnyard.paths import alike, parting, paths, spare
from learnyard.rows import how_many, is_row, row_at, shortest
from learnyard.rules import core, greatest, is_state, look_rules, next_things, states
from learnyard.texts import written
from tests import brute

CHOICE = (4, [(0, ()), (1, ()), (2, (0, 1)), (2, (3,)), (3, (0,))])
NEVER = (4, [(0, ()), (1, (0,)), (2, (3,)), (3, (2,))])

# Each function that takes rules, with arguments that would be refused by themselves where there are such.
TAKERS = (
    ("look_rules", lambda rules: look_rules(rules)),
    ("next_things", lambda rules: next_things(rules, (99, -1))),
    ("states", lambda rules: states(rules)),
    ("is_state", lambda rules: is_state(rules, (99, -1))),
    ("greatest", lambda rules: greatest(rules)),
    ("core", lambda rules: core(rules, (99, -1))),
    ("is_row", lambda rules: is_row(rules, [99])),
    ("how_many", lambda rules: how_many(rules, (99, -1))),
    ("row_at bad state", lambda rules: row_at(rules, (99, -1), -1)),
    ("row_at bad number", lambda rules: row_at(rules, (), -1)),
    ("shortest", lambda rules: shortest(rules, (99, -1), (99, -1))),
    ("shortest bad wish", lambda rules: shortest(rules, (), (99, -1))),
    ("last_things", lambda rules: last_things(rules, (99, -1))),
    ("by_fringes", lambda rules: by_fringes(rules, [99], [-1])),
    ("road", lambda rules: road(rules, (99, -1), (99, -1))),
    ("paths", lambda rules: paths(rules)),
    ("spare", lambda rules: spare(rules)),
    ("alike, the one", lambda rules: alike(rules, (7, []))),
    ("alike, the other", lambda rules: alike((7, []), rules)),
    ("parting, the one", lambda rules: parting(rules, (7, []))),
    ("parting, the other", lambda rules: parting((7, []), rules)),
    ("joined, the one", lambda rules: joined(rules, (7, []))),
    ("joined, the other", lambda rules: joined((7, []), rules)),
    ("cut", lambda rules: cut(rules, (99, -1))),
    ("behind", lambda rules: behind(rules, (99, -1))),
    ("Finder", lambda rules: Finder(rules)),
    ("fewest_questions", lambda rules: fewest_questions(rules)),
    ("written", lambda rules: written(rules)),
)

BAD_RULES = (
    ("eleven things", (11, [])),
    ("far too many things", (999999999999999, [])),
    ("fewer than no things", (-1, [])),
    ("far fewer than no things", (-999999999999999, [])),
    ("a way where nothing is", (0, [(0, ())])),
    ("a way to a thing too large", (3, [(3, ())])),
    ("a way to a thing below 0", (3, [(-1, ())])),
    ("a way to a thing far too large", (3, [(999999999999999, ())])),
    ("a needed thing too large", (3, [(0, (3,))])),
    ("a needed thing far too large", (3, [(0, (999999999999999,))])),
    ("a needed thing below 0", (3, [(0, (-1,))])),
    ("a needed thing that is itself", (3, [(1, (1,))])),
    ("a needed thing that is itself, among others", (3, [(1, (0, 1, 2))])),
    ("a needed thing twice", (3, [(0, (1, 1))])),
    ("needed things out of order", (3, [(0, (2, 1))])),
    ("ways out of order by thing", (3, [(1, ()), (0, ())])),
    ("ways out of order by needed things", (3, [(0, (1, 2)), (0, (1,))])),
    ("ways out of order, of fewer needed things first", (3, [(0, (2,)), (0, (1, 2))])),
    ("a way twice", (3, [(0, ()), (0, ())])),
    ("a way twice, with needed things", (3, [(0, ()), (2, (0, 1)), (2, (0, 1))])),
    ("an empty way", (3, [()])),
    ("a way of one", (3, [(0,)])),
    ("a way of three", (3, [(0, (), ())])),
    ("a way of three numbers", (3, [(0, 1, 2)])),
    ("a way of another length behind good ones", (3, [(0, ()), (1, (0,)), (1, (2,), 0)])),
    ("a way of another length ahead of good ones", (3, [(), (0, ()), (1, (0,))])),
    ("rules of nothing", ()),
    ("rules of one", (3,)),
    ("rules of three", (3, [], [])),
    ("1301 ways", (10, brute.every_way(10)[:1301])),
)


class LookRulesTest(unittest.TestCase):
    def test_no_things(self):
        self.assertIsNone(look_rules((0, [])))

    def test_ten_things(self):
        self.assertIsNone(look_rules((10, [])))
        self.assertIsNone(look_rules((10, [(0, ()), (9, (0, 1, 2, 3, 4, 5, 6, 7, 8))])))

    def test_ways_as_many_as_may_be(self):
        self.assertIsNone(look_rules((10, brute.every_way(10)[:1300])))

    def test_ways_rise_as_tuples_do(self):
        self.assertIsNone(look_rules((3, [(0, ()), (0, (1,)), (0, (1, 2)), (0, (2,)), (1, ())])))

    def test_all_small_rules_are_good(self):
        for rules in brute.small_rules():
            self.assertIsNone(look_rules(rules))

    def test_bad_rules_ahead_of_all_else_everywhere(self):
        for what, rules in BAD_RULES:
            for name, taker in TAKERS:
                with self.subTest(what=what, name=name):
                    self.assertRaises(BadRules, taker, rules)


class StatesTest(unittest.TestCase):
    def test_next_things(self):
        self.assertEqual(next_things(CHOICE, ()), [0, 1])
        self.assertEqual(next_things(CHOICE, (0,)), [1, 3])
        self.assertEqual(next_things(CHOICE, (0, 1)), [2, 3])
        self.assertEqual(next_things(CHOICE, (0, 1, 2, 3)), [])

    def test_next_things_of_a_set_that_is_no_state(self):
        self.assertFalse(is_state(CHOICE, (3,)))
        self.assertEqual(next_things(CHOICE, (3,)), [0, 1, 2])
        self.assertEqual(next_things(NEVER, (2,)), [0, 3])

    def test_states_in_their_order(self):
        self.assertEqual(states(CHOICE), [
            (), (0,), (1,), (0, 1), (0, 3), (0, 1, 2), (0, 1, 3), (0, 2, 3), (0, 1, 2, 3)])

    def test_no_things_and_no_ways(self):
        self.assertEqual(states((0, [])), [()])
        self.assertEqual(greatest((0, [])), ())
        self.assertEqual(core((0, []), ()), ())
        self.assertIs(is_state((0, []), ()), True)
        self.assertEqual(next_things((0, []), ()), [])
        self.assertEqual(states((10, [])), [()])
        self.assertEqual(core((10, []), tuple(range(10))), ())

    def test_ten_things_all_free(self):
        rules = (10, [(thing, ()) for thing in range(10)])
        self.assertEqual(states(rules), brute.every_set(10))
        self.assertEqual(greatest(rules), tuple(range(10)))

    def test_ten_things_with_very_many_ways(self):
        rules = brute.full_rules()
        firsts = [things for things in brute.every_set(4)]
        laters = [things for things in brute.every_set(10) if len(things) > 4 and set(things) >= {0, 1, 2, 3}]
        self.assertEqual(states(rules), firsts + laters)

    def test_things_that_can_never_be_learnt(self):
        self.assertEqual(states(NEVER), [(), (0,), (0, 1)])
        self.assertEqual(greatest(NEVER), (0, 1))
        self.assertEqual(core(NEVER, (0, 1, 2, 3)), (0, 1))
        self.assertEqual(core(NEVER, (1, 2, 3)), ())
        self.assertIs(is_state(NEVER, (0, 1)), True)
        self.assertIs(is_state(NEVER, (2, 3)), False)
        self.assertIs(is_state(NEVER, (0, 1, 2, 3)), False)

    def test_core(self):
        self.assertEqual(core(CHOICE, (1, 2, 3)), (1,))
        self.assertEqual(core(CHOICE, (0, 2, 3)), (0, 2, 3))
        self.assertEqual(core(CHOICE, (0, 2)), (0,))

    def test_against_going_through_every_set(self):
        for rules in brute.small_rules():
            known_states = brute.states(rules)
            with self.subTest(rules=rules):
                self.assertEqual(states(rules), known_states)
                self.assertEqual(greatest(rules), known_states[-1])
                for things in brute.every_set(rules[0]):
                    self.assertIs(is_state(rules, things), things in known_states)
                    self.assertEqual([core(rules, things)], brute.core(known_states, things))
                    self.assertEqual(next_things(rules, things), brute.next_things(rules, things))

    def test_two_states_put_together_are_a_state(self):
        for rules in brute.some_rules(4, 40, 40) + brute.some_rules(6, 10, 60) + [CHOICE, NEVER]:
            found = states(rules)
            for one in found:
                for other in found:
                    self.assertIn(tuple(sorted(set(one) | set(other))), found)

    def test_bad_state_of_what_is_no_set(self):
        bad = ((1, 0), (1, 1), (0, 1, 1), (-1,), (-1, 0), (4,), (0, 4), (999999999999999,), (-999999999999999,))
        for things in bad:
            for taker in (next_things, is_state, core):
                with self.subTest(things=things, taker=taker):
                    self.assertRaises(BadState, taker, CHOICE, things)
        self.assertRaises(BadState, is_state, (0, []), (0,))
        self.assertRaises(BadState, core, (10, []), (10,))


if __name__ == "__main__":
    unittest.main()
