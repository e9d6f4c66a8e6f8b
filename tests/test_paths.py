import unittest

from learnyard.errors import BadRules, Unlike
from learnyard.paths import alike, parting, paths, spare
from learnyard.rules import look_rules, states
from tests import brute

CHOICE = (4, [(0, ()), (1, ()), (2, (0, 1)), (2, (3,)), (3, (0,))])
NEVER = (4, [(0, ()), (1, (0,)), (2, (3,)), (3, (2,))])
FREE = (4, [(thing, ()) for thing in range(4)])


def wide_rules():
    # As many paths as there can be for one thing: 0 comes behind any four of the nine others.
    return (10, sorted([way for way in brute.every_way(10) if way[0] == 0 and len(way[1]) == 4]
                       + [(thing, ()) for thing in range(1, 10)]))


class PathsTest(unittest.TestCase):
    def test_what_is_needed_is_a_state(self):
        # To come to 3 one needs 0, so behind 3 stands (0, 3); behind 0 and 1 nothing more is needed.
        self.assertEqual(paths(CHOICE), (4, [(0, ()), (1, ()), (2, (0, 1)), (2, (0, 3)), (3, (0,))]))

    def test_ways_that_can_never_be_gone(self):
        self.assertEqual(paths(NEVER), (4, [(0, ()), (1, (0,))]))

    def test_greater_ways_are_not_told(self):
        self.assertEqual(paths((3, [(0, ()), (1, ()), (2, (0,)), (2, (0, 1))])), (3, [(0, ()), (1, ()), (2, (0,))]))

    def test_a_state_of_more_things_that_is_none_the_less_least(self):
        # (1,) has fewer things than (0, 3), but is not within it: both are told.
        rules = (4, [(0, ()), (1, ()), (2, (1,)), (2, (3,)), (3, (0,))])
        self.assertEqual(paths(rules), (4, [(0, ()), (1, ()), (2, (0, 3)), (2, (1,)), (3, (0,))]))

    def test_no_things_and_no_ways(self):
        self.assertEqual(paths((0, [])), (0, []))
        self.assertEqual(paths((10, [])), (10, []))

    def test_very_many_ways(self):
        rules = wide_rules()
        self.assertEqual(len(rules[1]), 135)
        self.assertEqual(paths(rules), rules)
        self.assertEqual(states(paths(brute.full_rules())), states(brute.full_rules()))

    def test_against_going_through_every_thing_and_state(self):
        for rules in brute.small_rules():
            found = paths(rules)
            with self.subTest(rules=rules):
                self.assertEqual(found, brute.paths(rules))
                self.assertIsNone(look_rules(found))
                self.assertEqual(states(found), brute.states(rules))
                self.assertEqual(paths(found), found)

    def test_rules_with_the_same_states_have_the_same_paths(self):
        least = {}
        rules_met = 0
        for rules in brute.small_rules() + brute.some_rules(3, 200, 300):
            key = (rules[0], tuple(brute.states(rules)))
            rules_met += key in least
            self.assertEqual(paths(rules), least.setdefault(key, paths(rules)), rules)
        self.assertGreater(rules_met, 100)


class AlikeTest(unittest.TestCase):
    def test_alike(self):
        self.assertIs(alike(CHOICE, CHOICE), True)
        self.assertIs(alike(CHOICE, paths(CHOICE)), True)
        self.assertIs(alike(NEVER, (4, [(0, ()), (1, (0,))])), True)
        self.assertIs(alike((0, []), (0, [])), True)
        self.assertIs(alike(CHOICE, FREE), False)
        self.assertIs(alike((1, []), (1, [(0, ())])), False)

    def test_parting(self):
        self.assertIsNone(parting(CHOICE, paths(CHOICE)))
        self.assertIsNone(parting((0, []), (0, [])))
        self.assertEqual(parting(CHOICE, FREE), (2,))
        self.assertEqual(parting((1, []), (1, [(0, ())])), (0,))

    def test_fewer_things_ahead_of_lesser_ones(self):
        # (0, 1) is less than (2,) as tuples are ordered, but has more things.
        one = (3, [(0, ()), (1, (0,))])
        other = (3, [(0, ()), (2, ())])
        self.assertEqual(parting(one, other), (2,))
        self.assertEqual(parting(other, one), (2,))

    def test_one_has_fewer_and_each_has_some_alone(self):
        one = (3, [(0, ()), (1, (0,))])
        other = (3, [(0, ()), (2, (0,))])
        self.assertEqual(parting(one, other), (0, 1))
        self.assertEqual(parting(other, one), (0, 1))

    def test_the_first_that_just_one_has_stands_late(self):
        free = [(thing, ()) for thing in range(9)]
        one = (10, free + [(9, tuple(range(9)))])
        other = (10, free)
        self.assertEqual(parting(one, other), tuple(range(10)))
        self.assertEqual(parting(other, one), tuple(range(10)))
        self.assertIs(alike(one, other), False)
        later = (10, free + [(9, (1, 2, 3, 4, 5, 6, 7, 8))])
        self.assertEqual(parting(one, later), (1, 2, 3, 4, 5, 6, 7, 8, 9))
        self.assertEqual(parting(later, one), (1, 2, 3, 4, 5, 6, 7, 8, 9))

    def test_against_the_two_lists_of_states(self):
        for many in (brute.every_rules(0), brute.every_rules(1), brute.every_rules(2),
                     brute.some_rules(3, 30, 31), brute.some_rules(4, 16, 41)):
            for one in many:
                for other in many:
                    expected = brute.parting(one, other)
                    self.assertEqual(parting(one, other), expected, (one, other))
                    self.assertIs(alike(one, other), brute.states(one) == brute.states(other), (one, other))

    def test_rules_of_other_counts(self):
        for taker in (alike, parting):
            self.assertRaises(Unlike, taker, CHOICE, (3, []))
            self.assertRaises(Unlike, taker, (3, []), CHOICE)
            # The same states, but of other counts.
            self.assertRaises(Unlike, taker, (0, []), (10, []))

    def test_bad_rules_of_the_one_and_of_the_other_ahead_of_unlike(self):
        for bad in ((3, [(3, ())]), (11, []), (3, [(0, ()), (0, ())]), (4, [(0, (0,))])):
            for taker in (alike, parting):
                self.assertRaises(BadRules, taker, bad, (5, []))
                self.assertRaises(BadRules, taker, (5, []), bad)


class SpareTest(unittest.TestCase):
    def test_the_last_way_is_looked_at_first(self):
        # Each of the last two ways to 2 would do, as 0 and 1 come together: the last is left out.
        rules = (3, [(0, ()), (1, (0,)), (2, (0, 1)), (2, (1,))])
        self.assertEqual(spare(rules), (3, [(0, ()), (1, (0,)), (2, (0, 1))]))

    def test_ways_beside_a_free_one(self):
        rules = (3, [(0, ()), (1, ()), (2, ()), (2, (0,)), (2, (0, 1)), (2, (1,))])
        self.assertEqual(spare(rules), (3, [(0, ()), (1, ()), (2, ())]))

    def test_a_way_for_which_only_two_others_together_stand(self):
        # 2 comes behind 0 or 1, so who has 2 has what the one or the other way to 3 needs.
        rules = (4, [(0, ()), (1, ()), (2, (0,)), (2, (1,)), (3, (0,)), (3, (1,)), (3, (2,))])
        self.assertEqual(spare(rules), (4, rules[1][:-1]))

    def test_ways_that_can_never_be_gone(self):
        self.assertEqual(spare(NEVER), (4, [(0, ()), (1, (0,))]))

    def test_nothing_to_spare(self):
        self.assertEqual(spare(CHOICE), CHOICE)
        self.assertEqual(spare((0, [])), (0, []))
        self.assertEqual(spare((10, [])), (10, []))
        self.assertEqual(spare(wide_rules()), wide_rules())

    def test_ways_as_many_as_may_be(self):
        ways = [way for way in brute.every_way(10) if len(way[1]) > 1][:1290]
        rules = (10, sorted(ways + [(thing, ()) for thing in range(10)]))
        self.assertEqual(spare(rules), (10, [(thing, ()) for thing in range(10)]))

    def test_against_looking_one_by_one(self):
        for rules in brute.every_rules(2) + brute.some_rules(3, 80, 3) + brute.some_rules(4, 40, 4):
            self.assertEqual(spare(rules), brute.spare(rules), rules)

    def test_many_ways_against_looking_one_by_one(self):
        for places in range(1, 40, 2):
            ways = brute.every_way(4)
            rules = (4, [ways[place] for place in range(len(ways)) if (place * places) % 7 < 4 or not ways[place][1]])
            self.assertEqual(spare(rules), brute.spare(rules), rules)
            fewer = (4, [way for way in rules[1] if way[1] or way[0] == places % 4])
            self.assertEqual(spare(fewer), brute.spare(fewer), fewer)

    def test_the_same_states_and_no_way_can_be_left_out(self):
        for rules in brute.small_rules() + brute.some_rules(7, 6, 70):
            found = spare(rules)
            with self.subTest(rules=rules):
                self.assertIsNone(look_rules(found))
                self.assertEqual(states(found), states(rules))
                self.assertEqual([way for way in rules[1] if way in found[1]], found[1])
                for way in found[1]:
                    fewer = (rules[0], [other for other in found[1] if other != way])
                    self.assertNotEqual(states(fewer), states(rules))


if __name__ == "__main__":
    unittest.main()
