import copy
import inspect
import unittest

from learnyard import finding, fringes, joining, rows, rules, texts
from learnyard import paths as least
from learnyard.finding import Finder, fewest_questions
from learnyard.fringes import by_fringes, last_things, road
from learnyard.joining import behind, cut, joined
from learnyard.paths import alike, parting, paths, spare
from learnyard.rows import how_many, is_row, row_at, shortest
from learnyard.rules import core, greatest, is_state, look_rules, next_things, states
from learnyard.texts import read, written
from tests import brute

CHOICE = (4, [(0, ()), (1, ()), (2, (0, 1)), (2, (3,)), (3, (0,))])
OTHER = (4, [(0, (3,)), (2, ()), (2, (1,)), (3, ()), (3, (2,))])
# These are their own paths, and no way can be spared: what is told of them must be new none the less.
LEAST = (4, [(0, ()), (1, ()), (2, (0, 1)), (2, (0, 3)), (3, (0,))])

CALLS = (
    (look_rules, ()),
    (next_things, ((0,),)),
    (states, ()),
    (is_state, ((0, 1),)),
    (greatest, ()),
    (core, ((1, 2, 3),)),
    (is_row, ([0, 3, 2],)),
    (is_row, ([0, 0],)),
    (how_many, ((0, 1, 2, 3),)),
    (row_at, ((0, 1, 2, 3), 2)),
    (shortest, ((), (2,))),
    (shortest, ((0,), (0,))),
    (last_things, ((0, 1, 2, 3),)),
    (by_fringes, ([3, 2, 1], [])),
    (by_fringes, ([], [1, 0])),
    (road, ((0, 3), (1,))),
    (road, ((0, 3), (0, 3))),
    (paths, ()),
    (spare, ()),
    (alike, (OTHER,)),
    (alike, (LEAST,)),
    (parting, (OTHER,)),
    (joined, (OTHER,)),
    (joined, ((4, []),)),
    (cut, ((1, 2, 3),)),
    (cut, ((0, 1, 2, 3),)),
    (behind, ((),)),
    (behind, ((0,),)),
    (fewest_questions, ()),
    (written, ()),
)

ARGUMENTS = (
    (rules, "look_rules", "rules"),
    (rules, "next_things", "rules state"),
    (rules, "states", "rules"),
    (rules, "is_state", "rules things"),
    (rules, "greatest", "rules"),
    (rules, "core", "rules things"),
    (rows, "is_row", "rules row"),
    (rows, "how_many", "rules goal"),
    (rows, "row_at", "rules goal number"),
    (rows, "shortest", "rules have wished"),
    (fringes, "last_things", "rules state"),
    (fringes, "by_fringes", "rules last later"),
    (fringes, "road", "rules one other"),
    (least, "paths", "rules"),
    (least, "spare", "rules"),
    (least, "alike", "one other"),
    (least, "parting", "one other"),
    (joining, "joined", "one other"),
    (joining, "cut", "rules things"),
    (joining, "behind", "rules state"),
    (finding, "Finder", "rules"),
    (finding, "fewest_questions", "rules"),
    (Finder, "left", "self"),
    (Finder, "question", "self"),
    (Finder, "answer", "self thing has"),
    (texts, "written", "rules"),
    (texts, "read", "text"),
)


def lists_in(told):
    if isinstance(told, list):
        return [told]
    return [part for part in told if isinstance(part, list)] if isinstance(told, tuple) else []


class WholeTest(unittest.TestCase):
    def test_what_is_handed_in_stays_as_it_was(self):
        for first_rules in (CHOICE, LEAST):
            for function, others in CALLS:
                handed = copy.deepcopy((first_rules,) + others)
                function(*handed)
                self.assertEqual(handed, (first_rules,) + others, function)

    def test_a_list_that_was_told_can_be_changed(self):
        for first_rules in (CHOICE, LEAST):
            for function, others in CALLS:
                handed = copy.deepcopy((first_rules,) + others)
                first = function(*handed)
                expected = copy.deepcopy(first)
                for told in lists_in(first):
                    told.append("more")
                    told.reverse()
                self.assertEqual(function(*handed), expected, function)
                self.assertEqual(handed, (first_rules,) + others, function)

    def test_rules_that_were_read_can_be_changed(self):
        first = read(written(CHOICE))
        first[1].clear()
        self.assertEqual(read(written(CHOICE)), CHOICE)

    def test_a_finder_changes_and_keeps_nothing_that_is_handed_in(self):
        handed = copy.deepcopy(CHOICE)
        finder = Finder(handed)
        finder.question()
        finder.answer(1, False)
        finder.left().clear()
        self.assertEqual(handed, CHOICE)
        handed[1].clear()
        self.assertEqual(finder.left(), [(), (0,), (0, 3), (0, 2, 3)])
        self.assertEqual(finder.question(), 3)

    def test_nothing_that_is_handed_in_is_kept(self):
        handed = copy.deepcopy(CHOICE)
        states(handed)
        handed[1].clear()
        self.assertEqual(states(handed), [()])
        self.assertEqual(how_many(handed, ()), 1)
        self.assertEqual(shortest(handed, (), (0,)), None)

    def test_one_comes_to_a_state_just_by_some_row(self):
        for each in brute.small_rules():
            reached = [tuple(sorted(row)) for row in brute.rows(each)]
            for things in brute.every_set(each[0]):
                self.assertIs(is_state(each, things), things in reached)

    def test_no_two_states_have_the_same_fringes(self):
        for each in brute.small_rules() + brute.some_rules(6, 20, 6):
            told = [(last_things(each, state), next_things(each, state)) for state in states(each)]
            for place in range(len(told)):
                self.assertNotIn(told[place], told[:place])

    def test_kinds_that_are_told(self):
        self.assertEqual([type(state) for state in states(CHOICE)], [tuple] * 9)
        self.assertEqual([type(state) for state in road(CHOICE, (0, 3), (1,))], [tuple] * 4)
        self.assertIs(type(how_many(CHOICE, ())), int)
        for value in (greatest(CHOICE), core(CHOICE, (2,)), by_fringes(CHOICE, [], [0, 1]), parting(CHOICE, OTHER)):
            self.assertIs(type(value), tuple)
        self.assertEqual([type(state) for state in Finder(CHOICE).left()], [tuple] * 9)
        for value in (Finder(CHOICE).question(), fewest_questions(CHOICE), fewest_questions((0, []))):
            self.assertIs(type(value), int)
        self.assertIs(type(written(CHOICE)), str)

    def test_rules_that_are_told_are_rules(self):
        for told in (paths(CHOICE), spare(CHOICE), joined(CHOICE, OTHER), cut(CHOICE, (1, 2)), behind(CHOICE, (0,)),
                     read(written(CHOICE))):
            self.assertIs(type(told), tuple)
            self.assertIs(type(told[1]), list)
            self.assertIsNone(look_rules(told))

    def test_names_and_arguments(self):
        for module, name, arguments in ARGUMENTS:
            found = inspect.signature(getattr(module, name)).parameters
            self.assertEqual(list(found), arguments.split(), name)


if __name__ == "__main__":
    unittest.main()
