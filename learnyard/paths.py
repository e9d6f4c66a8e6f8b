"""Rules beside rules: the least rules with given states, which rules are alike, and ways that can be spared."""

from learnyard.errors import Unlike
from learnyard.masks import holds, mask_of, things_of
from learnyard.rules import look_rules, masks_of_states, states, states_order


def paths(rules):
    found = masks_of_states(rules)
    return paths_of(rules[0], found)


def paths_of(count, found):
    # The states alone tell what may come next, so rules with the same states get the same paths.
    ways = []
    for thing in range(count):
        ways.extend([(thing, things_of(mask)) for mask in least_openings(found, thing)])
    return (count, sorted(ways))


def least_openings(found, thing):
    # What lies within a mask is a smaller number, so it is met ahead of it.
    least = []
    for mask in sorted(found):
        if opens(found, mask, thing) and not any([(mask & other) == other for other in least]):
            least.append(mask)
    return least


def opens(found, mask, thing):
    return not holds(mask, thing) and (mask | (1 << thing)) in found


def look_both(one, other):
    look_rules(one)
    look_rules(other)
    if one[0] != other[0]:
        raise Unlike("the rules are of other counts of things")


def alike(one, other):
    return parting(one, other) is None


def parting(one, other):
    look_both(one, other)
    apart = sorted(set(states(one)) ^ set(states(other)))
    return min(apart, key=states_order, default=None)


def spare(rules):
    found = masks_of_states(rules)
    counts = opened_counts(rules[1], found)
    kept = []
    for way in reversed(rules[1]):
        opened = opened_by(way, found)
        # The states stay just if at each of them another way lets the thing come next.
        if all([counts[opening] > 1 for opening in opened]):
            for opening in opened:
                counts[opening] -= 1
        else:
            kept.append(way)
    return (rules[0], list(reversed(kept)))


def opened_counts(ways, found):
    counts = {}
    for way in ways:
        for opening in opened_by(way, found):
            counts[opening] = counts.get(opening, 0) + 1
    return counts


def opened_by(way, found):
    thing = way[0]
    needed = mask_of(way[1])
    return [(thing, mask) for mask in found if (mask & needed) == needed and not holds(mask, thing)]
