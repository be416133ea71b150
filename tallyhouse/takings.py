"""With which ticket the takings reach an amount, the tickets from one on being sold in order."""

from tallyhouse.ranges import beginnings
from tallyhouse.rows import is_whole, led_on, product_of, products_of
from tallyhouse.tables import table_sum
from tallyhouse.tallies import check_ticket, led_through


def takings(tally, ticket, amount):
    """("at", the ticket that reaches the amount, what is taken ahead of it), or ("never", all that is taken)."""
    check_ticket(tally.digits, ticket)
    columns = block_columns(tally, len(ticket))
    heads = head_rows(tally, ticket)
    taken = 0
    for beginning in beginnings(tally.digits, ticket, tally.digits[-1] * len(ticket)):
        # It has the digits of the ticket but for the last one.
        row = led_through(tally.digits, tally.tables, heads[len(beginning[:-1])], beginning[-1:])
        more = len(ticket) - len(beginning)
        block = product_of(row, columns[more])
        if taken + block >= amount:
            digits, ahead = reached_in(tally, columns[:more], row, amount - taken)
            return ("at", beginning + digits, taken + ahead)
        taken += block
    return ("never", taken)


def head_rows(tally, ticket):
    """For 0, 1, .. digits the row of so many first digits of a ticket."""
    rows = [tally.start]
    for digit in ticket:
        rows.append(led_on(rows[-1], tally.tables[tally.digits.index(digit)]))
    return rows


def block_columns(tally, length):
    """For 0, 1, .. digits more, up to a length, what all tickets of so many digits together make of each state."""
    table = table_sum(tally.tables, len(tally))
    columns = [tally.ends]
    for _ in range(length):
        columns.append(products_of(table, columns[-1]))
    return columns


def reached_in(tally, columns, row, amount):
    """In a block that reaches an amount: the digits behind its beginning with which it does, and what is ahead of it.

    The row is that of the beginning; the columns are those for fewer digits than the block has more.
    """
    digits, ahead = "", 0
    for column in columns[::-1]:
        for digit, table in zip(tally.digits, tally.tables):
            further = led_on(row, table)
            block = product_of(further, column)
            if ahead + block >= amount:
                digits, row = digits + digit, further
                break
            ahead += block
    return digits, ahead


def takings_hold(tally, ticket, amount, thing):
    """Whether any value is just the tuple of the takings."""
    return thing == takings(tally, ticket, amount) and is_whole(thing[-1])


def cuts(tally, length, amounts):
    """For each amount the ticket with which the takings from the first ticket of a roll on reach it, or None."""
    found = [takings(tally, tally.digits[0] * length, amount) for amount in amounts]
    return tuple([told[1] if told[0] == "at" else None for told in found])
