"""Fractions by which rows are added up, and those by which rows make the rows that they span."""

from tallyhouse.determinants import inverse_of
from tallyhouse.lattices import spread
from tallyhouse.quotients import bottom_of, multiples_of, quotient
from tallyhouse.rows import led_on, sum_of_rows, times_row
from tallyhouse.spans import widened


def mix_of(fractions, rows, width):
    """The sum of rows, each times its fraction: as a row of integers, and by what these are to be divided."""
    return sum_of_rows(multiples_of(fractions), rows, width), bottom_of(fractions)


def do_make(fractions, rows, row):
    """Whether the sum of rows, each times its fraction, is a row."""
    total, bottom = mix_of(fractions, rows, len(row))
    return total == times_row(bottom, row)


def weights_for(rows, others):
    """For each of other rows that some rows span, fractions, one for each of these, that make it."""
    places, leads = free_places(rows)
    # At the leads the free rows are a table with a determinant other than 0: it tells all of what they span.
    back, bottom = inverse_of([tuple([rows[place][lead] for lead in leads]) for place in places])
    found = []
    for other in others:
        numbers = led_on(tuple([other[lead] for lead in leads]), back)
        found.append(spread(places, [quotient(number, bottom) for number in numbers], rows, (0, 1)))
    return tuple(found)


def free_places(rows):
    """The places of the rows that are not spanned by those ahead, and as many places of numbers that tell them."""
    basis = []
    places = []
    for place, row in enumerate(rows):
        wider = widened(basis, row)
        if len(wider) > len(basis):
            basis = wider
            places.append(place)
    return places, [lead for lead, line in basis]
