"""What the document says, answered by going through everything, for small rules; and rules to try."""

from itertools import combinations, permutations
from random import Random


def every_set(count):
    return [things for size in range(count + 1) for things in combinations(range(count), size)]


def every_way(count):
    return sorted((thing, needed) for thing in range(count) for needed in every_set(count) if thing not in needed)


def every_rules(count):
    ways = every_way(count)
    return [(count, list(chosen)) for size in range(len(ways) + 1) for chosen in combinations(ways, size)]


def some_rules(count, how_many, seed):
    # The same ones at each run: the seed is given. Few things are needed mostly, so that there are many states.
    source = Random(seed)
    return [(count, sorted({some_way(source, count, thing) for thing in range(count)
                            for way in range(source.choice((0, 1, 2, 2, 3, 3)))}))
            for turn in range(how_many)]


def some_way(source, count, thing):
    others = [other for other in range(count) if other != thing]
    size = min(source.choice((0, 0, 1, 1, 1, 2, 2, 3)), len(others))
    return (thing, tuple(sorted(source.sample(others, size))))


def small_rules():
    found = every_rules(0) + every_rules(1) + every_rules(2)
    return found + some_rules(3, 80, 3) + some_rules(4, 80, 4) + some_rules(5, 12, 5)


def full_rules():
    # Ten things and very many ways: to each thing by any four of the others, and four things free.
    fours = [(thing, needed) for thing, needed in every_way(10) if len(needed) == 4]
    return (10, sorted(fours + [(thing, ()) for thing in range(4)]))


def may_come(rules, known, thing):
    return thing not in known and any(way == thing and set(needed) <= set(known) for way, needed in rules[1])


def is_row(rules, row):
    return all(may_come(rules, row[:place], row[place]) for place in range(len(row)))


def rows(rules):
    lists = [list(order) for size in range(rules[0] + 1) for order in permutations(range(rules[0]), size)]
    return [row for row in lists if is_row(rules, row)]


def states(rules):
    found = {tuple(sorted(row)) for row in rows(rules)}
    return [things for things in every_set(rules[0]) if things in found]


def next_things(rules, known):
    return [thing for thing in range(rules[0]) if may_come(rules, known, thing)]


def last_things(known_states, state):
    return [thing for thing in state if tuple(t for t in state if t != thing) in known_states]


def core(known_states, things):
    within = [state for state in known_states if set(state) <= set(things)]
    return [state for state in within if all(set(other) <= set(state) for other in within)]


def shortest(rules, have, wished):
    others = [thing for thing in range(rules[0]) if thing not in have]
    for size in range(len(others) + 1):
        for order in permutations(others, size):
            on = list(order)
            good = all(may_come(rules, list(have) + on[:place], on[place]) for place in range(size))
            if good and set(wished) <= set(have) | set(on):
                return on
    return None


def passed(start, order):
    # The sets that one comes by, where each thing of the order is taken up, or dropped if it was there.
    sets = [tuple(start)]
    for thing in order:
        sets.append(tuple(sorted(set(sets[-1]) ^ {thing})))
    return sets


def road(known_states, one, other):
    top = tuple(sorted(set(one) | set(other)))
    more = [order for order in permutations(sorted(set(other) - set(one)))
            if all(step in known_states for step in passed(one, order))]
    fewer = [order for order in permutations(sorted(set(one) - set(other)))
             if all(step in known_states for step in passed(top, order))]
    return passed(one, min(more)) + passed(top, max(fewer))[1:]


def paths(rules):
    known_states = states(rules)
    return (rules[0], sorted(
        (thing, state) for thing in range(rules[0]) for state in known_states
        if may_come(rules, state, thing)
        and not any(may_come(rules, lesser, thing) for lesser in known_states if set(lesser) < set(state))))


def parting(one, other):
    ones, others = states(one), states(other)
    apart = [things for things in every_set(one[0]) if (things in ones) != (things in others)]
    return apart[0] if apart else None


def spare(rules):
    known_states = states(rules)
    kept = list(rules[1])
    for way in rules[1][::-1]:
        fewer = [other for other in kept if other != way]
        if states((rules[0], fewer)) == known_states:
            kept = fewer
    return (rules[0], kept)


def question(count, left):
    if len(left) == 1:
        return None
    gaps = [abs(sum(1 if thing in state else -1 for state in left)) for thing in range(count)]
    return min(range(count), key=lambda thing: (gaps[thing], thing))


def fewest(left, things):
    # Also by questions whose answer is clear: they help nobody, so they may be tried.
    if len(left) == 1:
        return 0
    return min(1 + max(fewest(side, things - {thing}) for side in sides(left, thing) if side) for thing in things)


def sides(left, thing):
    return [state for state in left if thing in state], [state for state in left if thing not in state]
