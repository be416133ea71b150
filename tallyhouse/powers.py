"""By which power of the number of digits a count grows: its rises, its degree, and the least levels."""

from tallyhouse.doubling import does_double, doubling_paper
from tallyhouse.errors import DoesDouble
from tallyhouse.paths import support
from tallyhouse.useful import useful_states


def rises(tally):
    """The ascending tuple of the pairs (p, q) of which one ticket leads p to p, p to q and q to q."""
    states = useful_states(tally)
    size = len(states)
    masks = triple_masks(tally, states)
    found = []
    for p in range(size):
        for q in range(size):
            goal = triple_number(size, p, q, q)
            if p != q and masks_led_to(masks, triple_number(size, p, p, q)) >> goal & 1 == 1:
                found.append((states[p], states[q]))
    return tuple(found)


def triple_number(size, one, other, third):
    """The number of a triple of places."""
    return (one * size + other) * size + third


def triple_masks(tally, states):
    """For each triple of places of states, by their numbers, the triples to which a digit leads all three.

    Many triples are told by one integer: the bit of the number of each of them is 1.
    """
    size = len(states)
    masks = [0] * (size * size * size)
    for table in tally.tables:
        goals = [[place for place, goal in enumerate(states) if table[state][goal] > 0] for state in states]
        singles = [sum([1 << place for place in line]) for line in goals]
        for other in range(size):
            for third in range(size):
                # The goals of the third one, for each goal of the other one: their places do not meet.
                pairs = sum([singles[third] << (place * size) for place in goals[other]])
                for one in range(size):
                    led = sum([pairs << (place * size * size) for place in goals[one]])
                    masks[triple_number(size, one, other, third)] |= led
    return masks


def masks_led_to(masks, number):
    """All numbers to which masks lead from one, step by step, by one step or more, as a mask."""
    found = 0
    waiting = masks[number]
    while waiting != 0:
        lowest = waiting & -waiting
        found |= lowest
        waiting = (waiting | masks[lowest.bit_length() - 1]) & ~found
    return found


def degree(tally):
    """The power by which it grows, None if it doubles."""
    if does_double(tally):
        return None
    return max([level for state, level in least_levels(tally, rises(tally))], default=0)


def levels_of(tally):
    """The least levels that a paper can have, as it has them; raises DoesDouble with a paper."""
    paper = doubling_paper(tally)
    if paper is not None:
        raise DoesDouble(paper)
    return least_levels(tally, rises(tally))


def steps_of(tally, states):
    """The pairs of two of the states of which a digit leads from the first one to the second one."""
    return [(state, goal) for state in states for table in tally.tables for goal in support(table[state])
            if goal in states]


def least_levels(tally, rising):
    """The pairs (useful state, least level) of a count that does not double, with these rises."""
    states = useful_states(tally)
    asked = [(p, q, 1) for p, q in rising] + [(p, q, 0) for p, q in steps_of(tally, states)]
    levels = {state: 0 for state in states}
    changed = True
    while changed:
        changed = False
        for p, q, more in asked:
            if levels[q] < levels[p] + more:
                levels[q] = levels[p] + more
                changed = True
    return tuple([(state, levels[state]) for state in states])


def raised(paper, times):
    """For a paper "power" the ticket of all its pieces, each with so many loops, and the ticket behind."""
    word, levels, chain, behind = paper
    return "".join([ahead + loop * times for ahead, p, loop, q in chain]) + behind
