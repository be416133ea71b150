"""Sums over ranges, blocks and rolls, and the tallies of sums and of steps."""

from tallyhouse.errors import BadTicket, OtherRoll
from tallyhouse.making import lessened
from tallyhouse.rewriters import one_ahead, through, up_to
from tallyhouse.rows import led_on, less_row, noughts, plus_row, product_of
from tallyhouse.tables import table_sum
from tallyhouse.tickets import is_ahead, is_ticket


def sums(tally):
    """A tally of the sums over the tickets of the roll up to the one that is asked for."""
    return through(tally, up_to(tally.digits))


def steps(tally):
    """A tally of the worths less those of the ticket directly ahead."""
    return lessened(tally, through(tally, one_ahead(tally.digits)))


def check_range(digits, low, high):
    """Raises BadTicket with the first of two values that is no ticket, then OtherRoll."""
    for thing in (low, high):
        if not is_ticket(digits, thing):
            raise BadTicket(thing)
    if len(low) != len(high):
        raise OtherRoll()


def range_sum(tally, low, high):
    """The sum of the worths of a range, 0 if it is empty."""
    check_range(tally.digits, low, high)
    if is_ahead(high, low):
        return 0
    return product_of(range_row(tally, low, high), tally.ends)


def range_row(tally, low, high):
    """The sum of the rows of the tickets of a range that is not empty."""
    row, below = row_and_below(tally, high)
    return less_row(plus_row(row, below), 1, row_and_below(tally, low)[1])


def row_and_below(tally, ticket):
    """The row of a ticket, and the sum of the rows of all tickets ahead of it in its roll."""
    table = table_sum(tally.tables, len(tally))
    row, below = tally.start, noughts(len(tally))
    for digit in ticket:
        place = tally.digits.index(digit)
        below = led_on(below, table)
        for lesser in tally.tables[:place]:
            below = plus_row(below, led_on(row, lesser))
        row = led_on(row, tally.tables[place])
    return row, below


def roll_rows(tally, row, many):
    """For 0, 1, .. digits behind what led to a row, so many in all, the sum of the rows that they lead to."""
    table = table_sum(tally.tables, len(tally))
    found = []
    for _ in range(many):
        found.append(row)
        row = led_on(row, table)
    return found


def block_sum(tally, beginning, length):
    """The sum of the worths of a block in the roll of a length."""
    row = tally.row(beginning)
    if len(beginning) > length:
        return 0
    return product_of(roll_rows(tally, row, length - len(beginning) + 1)[-1], tally.ends)


def roll_sum(tally, length):
    """The sum of the worths of a roll."""
    return block_sum(tally, "", length)


def roll_sums(tally, many):
    """The sums of the worths of the rolls of 0, 1, .. digits, so many."""
    return tuple([product_of(row, tally.ends) for row in roll_rows(tally, tally.start, many)])


def beginnings(digits, low, high):
    """The fewest beginnings whose blocks have just the tickets of a range."""
    check_range(digits, low, high)
    if is_ahead(high, low):
        return ()
    alike = 0
    while alike < len(low) and low[alike] == high[alike]:
        alike += 1
    # Over one digit each beginning has the same block, also the empty one.
    if len(digits) == 1:
        return ("",)
    if low[alike:] == digits[0] * (len(low) - alike) and high[alike:] == digits[-1] * (len(low) - alike):
        return (low[:alike],)
    middle = [low[:alike] + digit for digit in digits if low[alike] < digit < high[alike]]
    return tuple(beginnings_from(digits, low, alike + 1) + middle + beginnings_to(digits, high, alike + 1))


def beginnings_from(digits, low, shortest):
    """The beginnings of all tickets from one on that have its first digits, so many, in order."""
    head = stripped(low, digits[0], shortest)
    found = [head]
    for place in reversed(range(shortest, len(head))):
        found.extend([head[:place] + digit for digit in digits if digit > head[place]])
    return found


def beginnings_to(digits, high, shortest):
    """The beginnings of all tickets up to one that have its first digits, so many, in order."""
    head = stripped(high, digits[-1], shortest)
    found = []
    for place in range(shortest, len(head)):
        found.extend([head[:place] + digit for digit in digits if digit < head[place]])
    return found + [head]


def stripped(ticket, digit, shortest):
    """A ticket without a digit at its end, as often as it stands there, but never shorter than told."""
    while len(ticket) > shortest and ticket[-1] == digit:
        ticket = ticket[:-1]
    return ticket


def ticket_ahead(digits, ticket):
    """The ticket directly ahead of a ticket in its roll, None if there is none."""
    return neighbour(digits, ticket, digits[0], digits[-1], -1)


def ticket_behind(digits, ticket):
    """The ticket directly behind a ticket in its roll, None if there is none."""
    return neighbour(digits, ticket, digits[-1], digits[0], 1)


def neighbour(digits, ticket, last, first, step):
    """The ticket that comes by one digit's step, the digits behind it going from the last to the first one."""
    head = stripped(ticket, last, 0)
    if head == "":
        return None
    digit = digits[digits.index(head[-1]) + step]
    return head[:-1] + digit + first * (len(ticket) - len(head))
