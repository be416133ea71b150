"""Which states of a count tickets lead to, and by which tickets."""

from tallyhouse.making import turned
from tallyhouse.tallies import Tally


def support(row):
    """The places of a row's numbers above 0."""
    return [place for place, number in enumerate(row) if number > 0]


def tickets_from(tally, states):
    """All states that tickets lead to from some states, each with a ticket that does; from itself the empty one."""
    found = {state: "" for state in states}
    waiting = list(states)
    place = 0
    while place < len(waiting):
        state = waiting[place]
        place += 1
        for digit, table in zip(tally.digits, tally.tables):
            for goal in support(table[state]):
                if goal not in found:
                    found[goal] = found[state] + digit
                    waiting.append(goal)
    return found


def states_leading_to(tally, states):
    """The ascending list of the states from which tickets lead to some states, these too."""
    return sorted(tickets_from(turned(tally), states))


def states_led_to(tally, states, ticket):
    """The ascending list of the states to which one ticket leads from some states."""
    for digit in ticket:
        table = tally.tables[tally.digits.index(digit)]
        states = sorted(set([goal for state in states for goal in support(table[state])]))
    return states


def states_round(tally, state):
    """The ascending list of the states to which tickets lead from a state, and from which they lead back to it."""
    led = tickets_from(tally, [state])
    return [other for other in states_leading_to(tally, [state]) if other in led]


def trimmed_row(states, row):
    """A row with 0 at all states but some."""
    return tuple([number if place in states else 0 for place, number in enumerate(row)])


def trimmed(tally, states):
    """A tally whose rows are those of the tally with 0 at all states but some."""
    tables = [tuple([trimmed_row(states, row) for row in table]) for table in tally.tables]
    return Tally(tally.digits, trimmed_row(states, tally.start), tuple(tables), tally.ends)
