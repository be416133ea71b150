"""Going through the tickets in order, as far as their rows tell something new."""

from tallyhouse.lattices import rest_of, with_row
from tallyhouse.rows import lead_of, led_on, product_of
from tallyhouse.spans import widened


def tickets_behind(tally, ticket, row):
    """The pairs (ticket, row) of a ticket with each digit behind it."""
    return [(ticket + digit, led_on(row, table)) for digit, table in zip(tally.digits, tally.tables)]


def telling_rows(tally):
    """All pairs (ticket, row), in order, whose row is not spanned by the rows of the tickets ahead.

    Behind a ticket whose row is spanned by those of tickets ahead of it, every row is spanned, too, by rows of
    tickets ahead: so only the tickets behind those that tell are looked at.
    """
    basis = []
    found = []
    waiting = [("", tally.start)]
    place = 0
    while place < len(waiting):
        ticket, row = waiting[place]
        place += 1
        wider = widened(basis, row)
        if len(wider) > len(basis):
            basis = wider
            found.append((ticket, row))
            waiting.extend(tickets_behind(tally, ticket, row))
    return found


def making_rows(tally):
    """All pairs (ticket, row), in order, whose row is not made of the rows of the tickets ahead.

    These make the rows of all tickets. They come to an end, as lattices of one width cannot grow for ever.
    """
    basis = ()
    found = []
    waiting = [("", tally.start)]
    place = 0
    while place < len(waiting):
        ticket, row = waiting[place]
        place += 1
        if lead_of(rest_of(basis, row)) >= 0:
            basis = with_row(basis, row)
            found.append((ticket, row))
            waiting.extend(tickets_behind(tally, ticket, row))
    return found


def rows_met(tally, most):
    """The rows of all tickets, by their first tickets in order; None if they are more than so many.

    Without a bound (None) they must be finitely many.
    """
    found = [tally.start]
    known = {tally.start: True}
    place = 0
    while place < len(found):
        if most is not None and len(found) > most:
            return None
        for table in tally.tables:
            row = led_on(found[place], table)
            if row not in known:
                known[row] = True
                found.append(row)
        place += 1
    return found


def worths_in_order(tally, tickets):
    """The worths of some tickets over the digits.

    What a ticket begins with as the one ahead of it does is led on once: so many long tickets that differ at
    their ends alone are soon done.
    """
    heads = [tally.start]
    last = ""
    found = []
    for ticket in tickets:
        alike = alike_digits(last, ticket)
        heads = heads[:alike + 1]
        for digit in ticket[alike:]:
            heads.append(led_on(heads[-1], tally.tables[tally.digits.index(digit)]))
        found.append(product_of(heads[-1], tally.ends))
        last = ticket
    return found


def alike_digits(one, other):
    """With how many digits two tickets begin alike."""
    many = 0
    for digit, further in zip(one, other):
        if digit != further:
            break
        many += 1
    return many
