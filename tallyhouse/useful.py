"""The useful states of a count, the ways from state to state by a ticket, and tallies along a loop."""

from tallyhouse.paths import states_leading_to, support, tickets_from
from tallyhouse.rows import unit_row
from tallyhouse.tallies import Tally, check_ticket, column_behind, led_through


def useful_states(tally):
    """The ascending tuple of the states that tickets lead to, and from which tickets lead to an end above 0."""
    led = tickets_from(tally, support(tally.start))
    return tuple([state for state in states_leading_to(tally, support(tally.ends)) if state in led])


def ways(tally, ticket, state, goal):
    """How many ways a ticket has from a state to another one, or to itself; raises BadTicket."""
    check_ticket(tally.digits, ticket)
    return led_through(tally.digits, tally.tables, unit_row(len(tally), state), ticket)[goal]


def along(tally, ahead, loop, behind):
    """A tally over 0 whose ticket of k digits is worth what ahead with k loops and behind is; raises BadTicket."""
    for ticket in (ahead, loop, behind):
        check_ticket(tally.digits, ticket)
    return Tally("0", tally.row(ahead), (tally.table(loop),), column_behind(tally, behind))
