"""Rows of learning: which lists are rows, how many there are, which one stands where, and the shortest."""

from learnyard.errors import BadNumber, BadState
from learnyard.masks import mask_of, mask_of_all, may_learn, needs_of, next_within, states_within
from learnyard.rules import look_rules, look_set, look_state


def is_row(rules, row):
    look_rules(rules)
    look_listed(rules[0], row)
    needs = needs_of(rules)
    known = 0
    for thing in row:
        if not may_learn(needs, known, thing):
            return False
        known |= 1 << thing
    return True


def look_listed(count, row):
    # The whole list is looked at first, so that a thing that there is not is refused wherever it stands.
    for thing in row:
        if thing < 0 or thing >= count:
            raise BadState("there is no such thing")


def how_many(rules, goal):
    look_state(rules, goal)
    return rows_on(needs_of(rules), mask_of(goal))[0]


def rows_on(needs, goal):
    # For each state within the goal, how many rows lead from it on to the goal.
    # A state has a smaller mask than those further on, so these are counted ahead of it.
    counts = {goal: 1}
    for mask in sorted(states_within(needs, goal), reverse=True):
        if mask != goal:
            counts[mask] = sum([counts[mask | (1 << thing)] for thing in next_within(needs, mask, goal)])
    return counts


def row_at(rules, goal, number):
    look_state(rules, goal)
    needs = needs_of(rules)
    end = mask_of(goal)
    counts = rows_on(needs, end)
    if number < 0 or number >= counts[0]:
        raise BadNumber("no row has this number")
    row = []
    known = 0
    while known != end:
        for thing in next_within(needs, known, end):
            many = counts[known | (1 << thing)]
            if number < many:
                row.append(thing)
                known |= 1 << thing
                break
            number -= many
    return row


def shortest(rules, have, wished):
    look_state(rules, have)
    look_set(rules, wished)
    return first_row(needs_of(rules), mask_of(have), mask_of(wished))


def first_row(needs, start, wished):
    # States wait in the order of their least rows, shorter ones first,
    # so the first row found to a state is its least, and the first state with all of the wish is the one.
    every = mask_of_all(len(needs))
    least = {start: []}
    waiting = [start]
    place = 0
    while place < len(waiting):
        known = waiting[place]
        if (known & wished) == wished:
            return least[known]
        for thing in next_within(needs, known, every):
            larger = known | (1 << thing)
            if larger not in least:
                least[larger] = least[known] + [thing]
                waiting.append(larger)
        place += 1
    return None
