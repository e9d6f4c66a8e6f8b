"""Sets of things as masks: whole numbers with a bit for each thing, and learning with them.

Nothing here looks whether rules or sets are good ones: who calls has done so.
"""


def mask_of(things):
    mask = 0
    for thing in things:
        mask |= 1 << thing
    return mask


def things_of(mask):
    return tuple([thing for thing in range(mask.bit_length()) if holds(mask, thing)])


def holds(mask, thing):
    return ((mask >> thing) & 1) == 1


def mask_of_all(count):
    return (1 << count) - 1


def needs_of(rules):
    # Told apart by thing, so that a look at one thing passes by the ways to the others.
    needs = [[] for thing in range(rules[0])]
    for way in rules[1]:
        needs[way[0]].append(mask_of(way[1]))
    return needs


def may_learn(needs, known, thing):
    if holds(known, thing):
        return False
    for needed in needs[thing]:
        if (needed & known) == needed:
            return True
    return False


def next_within(needs, known, bounds):
    return [thing for thing in things_of(bounds) if may_learn(needs, known, thing)]


def core_within(needs, bounds):
    # What may come next still may when more is known, so any order of learning ends at the same state.
    known = 0
    later = next_within(needs, known, bounds)
    while later:
        known |= mask_of(later)
        later = next_within(needs, known, bounds)
    return known


def states_within(needs, bounds):
    found = {0: True}
    waiting = [0]
    while waiting:
        known = waiting.pop()
        for thing in next_within(needs, known, bounds):
            larger = known | (1 << thing)
            if larger not in found:
                found[larger] = True
                waiting.append(larger)
    return found
