"""Determinants of tables, and tables that lead back."""

from math import lcm

from tallyhouse.rows import lead_of, times_row, unit_row
from tallyhouse.spans import cleared, primitive


def determinant(table):
    """The determinant of a table (1 of the one of size 0)."""
    rows, size = list(table), len(table)
    sign, last = 1, 1
    for place in range(size):
        others = [other for other in range(place, size) if rows[other][place] != 0]
        if len(others) == 0:
            return 0
        if others[0] != place:
            rows[place], rows[others[0]] = rows[others[0]], rows[place]
            sign = -sign
        first = rows[place]
        for other in range(place + 1, size):
            rows[other] = crossed(rows[other], first, place, last)
        last = first[place]
    return sign * last


def crossed(row, first, place, last):
    """A row cleared at a place by the first one.

    Each number is a determinant of a part of the table, so the division by the last one leaves nothing.
    """
    return tuple([(first[place] * number - row[place] * further) // last for number, further in zip(row, first)])


def inverse_of(table):
    """A table, and a number from 1 on by which it is to be divided, that leads back from what a table leads on to.

    The table's determinant is not 0.
    """
    size = len(table)
    rows = [row + unit_row(size, place) for place, row in enumerate(table)]
    for place in range(size):
        first = with_lead(rows, place)
        rows = [row if row == first else primitive(cleared(row, first, place)) for row in rows]
    bottom = 1
    for row in rows:
        bottom = lcm(bottom, row[lead_of(row)])
    lines = [with_lead(rows, place) for place in range(size)]
    return tuple([times_row(bottom // line[place], line[size:]) for place, line in enumerate(lines)]), bottom


def with_lead(rows, place):
    """The one of the rows that has its lead at a place."""
    return [row for row in rows if lead_of(row) == place][0]
