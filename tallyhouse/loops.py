"""Loops of digits: tables led on again and again, and loops whose powers do not come round."""

from tallyhouse.rows import lead_of, less_row
from tallyhouse.tables import table_product, unit_table

# If the powers of a table of size 4 or less are finitely many, they come round so from the fourth one on: the roots
# of its polynomial are 0, or of an order that divides 120.
FIRST = 4
ROUND = 120


def power_of(table, times):
    """The table that leads on as a table does so many times."""
    found = unit_table(len(table))
    while times > 0:
        if times & 1 == 1:
            found = table_product(found, table)
        table = table_product(table, table)
        times = times >> 1
    return found


def change_of(table):
    """What a round changes in the powers of a table: noughts if they come round."""
    first = power_of(table, FIRST)
    later = table_product(first, power_of(table, ROUND))
    return tuple([less_row(row, 1, other) for row, other in zip(later, first)])


def does_change(table):
    """Whether the powers of a table do not come round."""
    return any([lead_of(row) >= 0 for row in change_of(table)])


def changing_loop(tally):
    """The first ticket, not empty, with a table whose powers do not come round, None if there is none.

    If there is none, the tables of all tickets are finitely many, so the search for it comes to an end (of tallies of
    at most four states: A. Mandel, I. Simon 1977).
    """
    unit = unit_table(len(tally))
    known = {unit: True}
    waiting = [("", unit)]
    place = 0
    while place < len(waiting):
        ticket, table = waiting[place]
        place += 1
        for digit, further in zip(tally.digits, tally.tables):
            longer = table_product(table, further)
            if longer not in known:
                if does_change(longer):
                    return ticket + digit
                known[longer] = True
                waiting.append((ticket + digit, longer))
    return None
