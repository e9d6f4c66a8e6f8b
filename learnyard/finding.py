"""Finding by questions what somebody knows."""

from learnyard.errors import BadState
from learnyard.masks import holds
from learnyard.rules import masks_of_states, states


class Finder:
    def __init__(self, rules):
        self.remaining = states(rules)
        self.thing_count = rules[0]

    def left(self):
        return list(self.remaining)

    def question(self):
        if len(self.remaining) == 1:
            return None
        gaps = [self.gap_at(thing) for thing in range(self.thing_count)]
        return gaps.index(min(gaps))

    def gap_at(self, thing):
        return abs(len(self.fitting(thing, True)) - len(self.fitting(thing, False)))

    def fitting(self, thing, has):
        return [state for state in self.remaining if (thing in state) == has]

    def answer(self, thing, has):
        if thing < 0 or thing >= self.thing_count:
            raise BadState("there is no such thing")
        kept = self.fitting(thing, has)
        if not kept:
            raise BadState("no state would be left")
        self.remaining = kept


def fewest_questions(rules):
    left = sorted(masks_of_states(rules))
    return fewest_of(left, rules[0], {})


def fewest_of(left, count, told):
    # Questions in another order often leave the same states, so what was found for these is told again.
    if len(left) == 1:
        return 0
    key = tuple(left)
    if key not in told:
        told[key] = fewest_by_trying(left, count, told)
    return told[key]


def fewest_by_trying(left, count, told):
    fewest = len(left)
    for thing in range(count):
        having = [mask for mask in left if holds(mask, thing)]
        lacking = [mask for mask in left if not holds(mask, thing)]
        # What can't be better than the best so far is not gone into.
        if having and lacking and 1 + least_bound(max(len(having), len(lacking))) < fewest:
            worst = max(fewest_of(having, count, told), fewest_of(lacking, count, told))
            fewest = min(fewest, 1 + worst)
    return fewest


def least_bound(many):
    # At worst each answer leaves half of the states or more, so fewer questions never do.
    return (many - 1).bit_length()
