"""Answers about the tickets of a bounded tally: which have a worth, how many, and in which places.

A machine is a pair (moves, worths): for each state the states to which the digits move it, and its tickets' worth.
"""

from tallyhouse.bounds import met_rows
from tallyhouse.rows import led_on, product_of
from tallyhouse.tallies import check_ticket


def machine(tally):
    """The machine with the fewest states that tells the worths; raises Unbounded with a paper "ever"."""
    told, rows = met_rows(tally)
    numbers = {row: number for number, row in enumerate(rows)}
    moves = [tuple([numbers[led_on(row, table)] for table in told.tables]) for row in rows]
    return tuple(moves), tuple([product_of(row, told.ends) for row in rows])


def many_behind(moves, worths, number, length):
    """For 0, 1, .. digits, up to a length, and for each state: how many tickets lead from it to a worth."""
    found = [[1 if worth == number else 0 for worth in worths]]
    for _ in range(length):
        last = found[-1]
        found.append([sum([last[goal] for goal in line]) for line in moves])
    return found


def nth_in(digits, moves, many, index):
    """The ticket, of as many digits as are told, ahead of which just index ones lead to the worth, or None."""
    if index >= many[-1][0]:
        return None
    ticket, state = "", 0
    for counts in many[-2::-1]:
        for digit, goal in zip(digits, moves[state]):
            if index < counts[goal]:
                ticket, state = ticket + digit, goal
                break
            index -= counts[goal]
    return ticket


def many_ahead(digits, moves, many, ticket):
    """How many tickets of its roll that are ahead of a ticket lead to the worth."""
    found, state = 0, 0
    for digit, counts in zip(ticket, many[-2::-1]):
        place = digits.index(digit)
        found += sum([counts[goal] for goal in moves[state][:place]])
        state = moves[state][place]
    return found


def state_of(digits, moves, ticket):
    """The state to which a ticket moves."""
    state = 0
    for digit in ticket:
        state = moves[state][digits.index(digit)]
    return state


def states_behind(moves, states):
    """All states to which one digit moves some states."""
    return sorted(set([goal for state in states for goal in moves[state]]))


def how_many(tally, number, length):
    """How many tickets of a roll are worth a number; raises Unbounded."""
    moves, worths = machine(tally)
    return many_behind(moves, worths, number, length)[-1][0]


def worths_in(tally, length):
    """The ascending tuple of the worths of a roll's tickets; raises Unbounded."""
    moves, worths = machine(tally)
    states = [0]
    for _ in range(length):
        states = states_behind(moves, states)
    return tuple(sorted(set([worths[state] for state in states])))


def first_of(tally, number, length):
    """The first ticket of a roll with a worth, None if there is none; raises Unbounded."""
    return nth_of(tally, number, length, 0)


def nth_of(tally, number, length, index):
    """The ticket of a roll with a worth ahead of which just index ones have it, or None; raises Unbounded."""
    moves, worths = machine(tally)
    return nth_in(tally.digits, moves, many_behind(moves, worths, number, length), index)


def place_of(tally, ticket):
    """How many tickets of its roll that are ahead of a ticket have its worth; raises Unbounded, BadTicket."""
    moves, worths = machine(tally)
    check_ticket(tally.digits, ticket)
    number = worths[state_of(tally.digits, moves, ticket)]
    return many_ahead(tally.digits, moves, many_behind(moves, worths, number, len(ticket)), ticket)


def next_of(tally, number, ticket):
    """The first ticket behind a ticket, of all, with a worth, None if there is none; raises Unbounded, BadTicket."""
    moves, worths = machine(tally)
    check_ticket(tally.digits, ticket)
    many = many_behind(moves, worths, number, len(ticket))
    index = many_ahead(tally.digits, moves, many, ticket)
    if worths[state_of(tally.digits, moves, ticket)] == number:
        index += 1
    found = nth_in(tally.digits, moves, many, index)
    if found is None:
        length = next_length(moves, worths, number, len(ticket))
        if length is not None:
            found = nth_in(tally.digits, moves, many_behind(moves, worths, number, length), 0)
    return found


def next_length(moves, worths, number, length):
    """The least length that is greater and has a ticket with a worth, None if there is none."""
    states = [0]
    # From where the next digit leads, whatever is led to at all is led to by fewer digits than there are states.
    for many in range(length + len(moves)):
        states = states_behind(moves, states)
        if many >= length and any([worths[state] == number for state in states]):
            return many + 1
    return None


def ticket_of(tally, number, index):
    """The ticket with a worth ahead of which just index tickets, of all, have it, or None; raises Unbounded."""
    moves, worths = machine(tally)
    alive = states_alive(moves, worths, number)
    many = {0: 1}
    length = 0
    while len(many) > 0:
        here = sum([many[state] for state in many if worths[state] == number])
        if index < here:
            return nth_in(tally.digits, moves, many_behind(moves, worths, number, length), index)
        index -= here
        length += 1
        many = many_moved(moves, alive, many)
    return None


def states_alive(moves, worths, number):
    """For each state from which some ticket leads to a worth, True."""
    alive = {state: True for state, worth in enumerate(worths) if worth == number}
    more = list(alive)
    while len(more) > 0:
        more = [state for state, line in enumerate(moves)
                if state not in alive and any([goal in alive for goal in line])]
        for state in more:
            alive[state] = True
    return alive


def many_moved(moves, alive, many):
    """For each state that is alive how many tickets lead there, of how many lead to each state by a digit less."""
    found = {}
    for state in many:
        for goal in moves[state]:
            if goal in alive:
                found[goal] = found.get(goal, 0) + many[state]
    return found
