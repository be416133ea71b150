"""Whether no worth of a count is greater than a cap, told by rows whose numbers are cut above it."""

from tallyhouse.paths import trimmed, trimmed_row
from tallyhouse.powers import degree
from tallyhouse.rows import are_rows, led_on, product_of
from tallyhouse.tickets import is_ascending, is_ticket
from tallyhouse.useful import useful_states
from tallyhouse.walks import rows_met


def cut(row, cap):
    """A row with no number above the one that follows the cap."""
    return tuple([min(number, cap + 1) for number in row])


def capped(tally, row, cap):
    """The capped row of a row of integers from 0 on."""
    return cut(trimmed_row(useful_states(tally), row), cap)


def capped_on(tally, row, digit, cap):
    """The capped row to which a digit leads a capped row on."""
    return capped(tally, led_on(row, tally.tables[tally.digits.index(digit)]), cap)


def capped_tickets(tally, cap, whole):
    """The capped rows of all tickets' rows, each with its first ticket, in order: pairs (ticket, row).

    If not the whole is asked for, they end with the first one that is worth more than the cap.
    """
    useful = trimmed(tally, useful_states(tally))
    waiting = [("", cut(useful.start, cap))]
    known = {}
    found = []
    place = 0
    while place < len(waiting):
        ticket, row = waiting[place]
        place += 1
        if row not in known:
            known[row] = True
            found.append((ticket, row))
            if not whole and is_above(tally, row, cap):
                break
            waiting.extend([(ticket + digit, cut(led_on(row, table), cap))
                            for digit, table in zip(tally.digits, useful.tables)])
    return found


def is_above(tally, row, cap):
    """Whether a capped row is worth more than the cap: exactly if the rows of which it is the capped one are."""
    return product_of(row, tally.ends) > cap


def capped_rows(tally, cap):
    """The ascending tuple of the capped rows of all tickets' rows."""
    return tuple(sorted([row for ticket, row in capped_tickets(tally, cap, True)]))


def first_above(tally, cap):
    """The first ticket whose worth is greater than the cap, None if there is none."""
    ticket, row = capped_tickets(tally, cap, False)[-1]
    return ticket if is_above(tally, row, cap) else None


def is_within(tally, cap):
    """Whether no worth is greater than the cap."""
    return first_above(tally, cap) is None


def judge_cap(tally, cap):
    """A paper "within", or "above" with the first ticket."""
    found = capped_tickets(tally, cap, False)
    ticket, row = found[-1]
    if is_above(tally, row, cap):
        return ("above", ticket)
    return ("within", tuple(sorted([row for ticket, row in found])))


def least_cap(tally):
    """The greatest worth, None if there is none."""
    if degree(tally) != 0:
        return None
    # At useful states the numbers of a bounded count are bounded, too: each of them is part of some worth.
    return max([product_of(row, tally.ends) for row in rows_met(trimmed(tally, useful_states(tally)), None)])


def cap_holds(tally, cap, thing):
    """Whether any value is a paper "within" or "above"."""
    if not isinstance(thing, tuple) or len(thing) != 2:
        return False
    if thing[0] == "above":
        return is_ticket(tally.digits, thing[1]) and is_ticket_above(tally, thing[1], cap)
    return thing[0] == "within" and do_keep_within(tally, cap, thing[1])


def is_ticket_above(tally, ticket, cap):
    """Whether a ticket is worth more than the cap."""
    useful = trimmed(tally, useful_states(tally))
    row = cut(useful.start, cap)
    for digit in ticket:
        row = cut(led_on(row, useful.tables[tally.digits.index(digit)]), cap)
    return is_above(tally, row, cap)


def do_keep_within(tally, cap, thing):
    """Whether any value is an ascending tuple of capped rows with the start's and all that they are led on to."""
    if not are_rows(thing, len(tally)) or not is_ascending(thing):
        return False
    states = useful_states(tally)
    if not all([number >= 0 for row in thing for number in row]):
        return False
    if not all([row == cut(trimmed_row(states, row), cap) and not is_above(tally, row, cap) for row in thing]):
        return False
    useful = trimmed(tally, states)
    known = {row: True for row in thing}
    if cut(useful.start, cap) not in known:
        return False
    return all([cut(led_on(row, table), cap) in known for row in thing for table in useful.tables])
