"""Rules made of others: joined, cut to a set of things, and what stays to be learnt behind a state."""

from learnyard.masks import mask_of
from learnyard.paths import look_both, paths_of
from learnyard.rules import look_set, look_state, masks_of_states


def joined(one, other):
    look_both(one, other)
    others = masks_of_states(other)
    found = {}
    for mask in masks_of_states(one):
        for added in others:
            found[mask | added] = True
    return paths_of(one[0], found)


def cut(rules, things):
    look_set(rules, things)
    bounds = mask_of(things)
    found = {}
    for mask in masks_of_states(rules):
        found[mask & bounds] = True
    return paths_of(rules[0], found)


def behind(rules, state):
    look_state(rules, state)
    known = mask_of(state)
    found = {}
    for mask in masks_of_states(rules):
        if (mask & known) == known:
            found[mask ^ known] = True
    return paths_of(rules[0], found)
