"""Whether a count doubles: whether by some ticket there are two ways or more from a useful state to itself."""

from tallyhouse.paths import states_round, support, tickets_from
from tallyhouse.useful import useful_states


def doubling_states(tally):
    """The ascending tuple of the useful states that double."""
    found = {}
    for state in useful_states(tally):
        if state not in found:
            # Of states that lead to each other all double, or none: the loop of one is led to and back by the others.
            doubles = doubling_loop(tally, state) is not None
            for other in states_round(tally, state):
                found[other] = doubles
    return tuple([state for state in sorted(found) if found[state]])


def does_double(tally):
    """Whether a useful state doubles."""
    return len(doubling_states(tally)) > 0


def doubled(paper, times):
    """For a paper "doubles" the ticket ahead with so many loops and the ticket behind."""
    word, ahead, state, loop, behind = paper
    return ahead + loop * times + behind


def doubling_paper(tally):
    """A paper "doubles", None if no useful state doubles."""
    states = doubling_states(tally)
    if len(states) == 0:
        return None
    ahead = tickets_from(tally, support(tally.start))[states[0]]
    behind = tickets_from(tally, [states[0]])
    ends = [behind[state] for state in support(tally.ends) if state in behind]
    return ("doubles", ahead, states[0], doubling_loop(tally, states[0]), ends[0])


def doubling_loop(tally, state):
    """A ticket by which there are two ways or more from a state to itself, None if there is none.

    A triple tells of two ways that one ticket has: to which states they lead, and whether they are unlike.
    """
    room = states_round(tally, state)
    found = {(state, state, False): ""}
    waiting = [(state, state, False)]
    place = 0
    while place < len(waiting):
        triple = waiting[place]
        place += 1
        for digit, table in zip(tally.digits, tally.tables):
            for further in triples_on(table, room, triple):
                if further not in found:
                    found[further] = found[triple] + digit
                    waiting.append(further)
    return found.get((state, state, True))


def triples_on(table, room, triple):
    """The triples to which a digit's table leads two ways on, the first state never behind the second one."""
    one, other, parted = triple
    ones = [state for state in room if table[one][state] > 0]
    others = [state for state in room if table[other][state] > 0]
    found = [(min(state, goal), max(state, goal), True) for state in ones for goal in others
             if parted or state != goal]
    if not parted:
        # Both are one way so far, and it goes on in one way, or in several ones to one state.
        found.extend([(state, state, False) for state in ones])
        found.extend([(state, state, True) for state in ones if table[one][state] >= 2])
    return found
