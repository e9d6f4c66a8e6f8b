"""Fringes: what may have come last at a state, which state has given fringes, and roads between states."""

from learnyard.masks import holds, mask_of, mask_of_all, needs_of, next_within, states_within, things_of
from learnyard.rules import look_rules, look_state


def last_things(rules, state):
    look_state(rules, state)
    mask = mask_of(state)
    return last_among(states_within(needs_of(rules), mask), mask)


def last_among(found, mask):
    return [thing for thing in things_of(mask) if (mask ^ (1 << thing)) in found]


def by_fringes(rules, last, later):
    look_rules(rules)
    needs = needs_of(rules)
    every = mask_of_all(rules[0])
    found = states_within(needs, every)
    # It is asked for things, in whatever order they are listed.
    ends = sorted(set(last))
    starts = sorted(set(later))
    for mask in found:
        if last_among(found, mask) == ends and next_within(needs, mask, every) == starts:
            return things_of(mask)
    return None


def road(rules, one, other):
    look_state(rules, one)
    look_state(rules, other)
    needs = needs_of(rules)
    start = mask_of(one)
    end = mask_of(other)
    steps = upward(needs, start, start | end)
    steps.extend(downward(needs, start | end, end))
    return [things_of(mask) for mask in steps]


def upward(needs, start, top):
    steps = [start]
    known = start
    while known != top:
        known |= 1 << next_within(needs, known, top)[0]
        steps.append(known)
    return steps


def downward(needs, top, end):
    found = states_within(needs, top)
    steps = []
    known = top
    while known != end:
        leaving = [thing for thing in last_among(found, known) if not holds(end, thing)]
        known ^= 1 << leaving[-1]
        steps.append(known)
    return steps
