"""Going through the tickets in order, as far as their rows tell something new."""

from tallyhouse.rows import led_on
from tallyhouse.spans import widened


def telling_rows(tally):
    """All pairs (ticket, row), in order, whose row is not spanned by the rows of the tickets ahead.

    Behind a ticket whose row is spanned by those of tickets ahead of it, every row is spanned, too, by rows of
    tickets ahead: so only the tickets behind those that tell are looked at.
    """
    basis = []
    found = []
    waiting = [("", tally.start)]
    place = 0
    while place < len(waiting):
        ticket, row = waiting[place]
        place += 1
        wider = widened(basis, row)
        if len(wider) > len(basis):
            basis = wider
            found.append((ticket, row))
            for digit, table in zip(tally.digits, tally.tables):
                waiting.append((ticket + digit, led_on(row, table)))
    return found
