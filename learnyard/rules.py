"""Rules, and the states of knowing to which one can come by them."""

from learnyard.errors import BadRules, BadState
from learnyard.masks import core_within, mask_of, mask_of_all, needs_of, next_within, states_within, things_of

MOST_THINGS = 10
MOST_WAYS = 1300


def is_whole(value):
    return isinstance(value, int) and not isinstance(value, bool)


def is_set(count, things):
    if not isinstance(things, tuple):
        return False
    ahead = -1
    for thing in things:
        if not is_whole(thing) or thing <= ahead or thing >= count:
            return False
        ahead = thing
    return True


def look_rules(rules):
    if not isinstance(rules, tuple) or len(rules) != 2:
        raise BadRules("rules are a pair of a count of things and a list of ways")
    count = rules[0]
    ways = rules[1]
    if not is_whole(count) or count < 0 or count > MOST_THINGS:
        raise BadRules(f"there are 0 to {MOST_THINGS} things")
    if not isinstance(ways, list) or len(ways) > MOST_WAYS:
        raise BadRules(f"ways are a list of up to {MOST_WAYS}")
    for way in ways:
        look_way(count, way)
    # Only behind the look at each way: ways of another form may have no order.
    for place in range(1, len(ways)):
        if ways[place - 1] >= ways[place]:
            raise BadRules("the ways don't rise")


def look_way(count, way):
    if not isinstance(way, tuple) or len(way) != 2:
        raise BadRules("a way is a pair of a thing and a set of needed ones")
    thing = way[0]
    needed = way[1]
    if not is_whole(thing) or thing < 0 or thing >= count:
        raise BadRules("a way leads to a thing that there is not")
    if not is_set(count, needed):
        raise BadRules("what a way needs is no set of the things")
    if thing in needed:
        raise BadRules("a way needs the thing that it leads to")


def look_set(rules, things):
    # The rules come first: without good ones nothing can be said of a set.
    look_rules(rules)
    if not is_set(rules[0], things):
        raise BadState("this is no set of the things")


def look_state(rules, state):
    if not is_state(rules, state):
        raise BadState("one can't come to this set")


def next_things(rules, state):
    look_set(rules, state)
    return next_within(needs_of(rules), mask_of(state), mask_of_all(rules[0]))


def states(rules):
    return sorted([things_of(mask) for mask in masks_of_states(rules)], key=states_order)


def states_order(things):
    return (len(things), things)


def masks_of_states(rules):
    look_rules(rules)
    return states_within(needs_of(rules), mask_of_all(rules[0]))


def is_state(rules, things):
    return core(rules, things) == things


def greatest(rules):
    look_rules(rules)
    return things_of(core_within(needs_of(rules), mask_of_all(rules[0])))


def core(rules, things):
    look_set(rules, things)
    return things_of(core_within(needs_of(rules), mask_of(things)))
