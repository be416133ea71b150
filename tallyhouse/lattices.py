"""Lattices of rows: their Hermite bases, and what shows whether a row is made of rows."""

from tallyhouse.quotients import less, over, quotient, weighed
from tallyhouse.rows import lead_of, less_row, noughts, plus_row, times_row, unit_row
from tallyhouse.spans import cleared, is_spanned, span_of


def hermite(rows, width):
    """The Hermite basis of the lattice of some rows of a width."""
    return basis_of(rows)


def basis_of(rows):
    """The Hermite basis, of whatever width the rows are: of no rows it is the same for each."""
    basis = ()
    for row in rows:
        basis = with_row(basis, row)
    return basis


def with_row(basis, row):
    """The Hermite basis of the lattice with one more row."""
    leads = {lead_of(line): line for line in basis}
    for place in range(len(row)):
        if row[place] != 0 and place not in leads:
            leads[place] = row if row[place] > 0 else times_row(-1, row)
            break
        if row[place] != 0:
            leads[place], row = folded(leads[place], row, place)
    return settled([leads[place] for place in sorted(leads)])


def folded(line, row, place):
    """Two rows that make what both make, the first one with their common divisor at a place, the second with 0."""
    common, many, more = common_divisor(line[place], row[place])
    first = plus_row(times_row(many, line), times_row(more, row))
    second = less_row(times_row(line[place] // common, row), row[place] // common, line)
    return first, second


def common_divisor(number, other):
    """The greatest common divisor of a number above 0 and another one, and how often they make it."""
    if other % number == 0:
        return number, 1, 0
    one, two = (number, 1, 0), (other, 0, 1)
    while two[0] != 0:
        one, two = two, less_row(one, one[0] // two[0], two)
    if one[0] < 0:
        one = times_row(-1, one)
    return one


def settled(rows):
    """A Hermite basis of rows whose leads are above 0 and stand further right each."""
    basis = ()
    for line in reversed(rows):
        basis = (rest_of(basis, line),) + basis
    return basis


def rest_of(basis, row):
    """What is left of a row, a Hermite basis being taken off: noughts exactly if the row is made of it."""
    for line in basis:
        lead = lead_of(line)
        row = less_row(row, row[lead] // line[lead], line)
    return row


def numbers_by(basis, row):
    """The integers by which a Hermite basis makes a row of its lattice."""
    numbers = []
    for line in basis:
        lead = lead_of(line)
        numbers.append(row[lead] // line[lead])
        row = less_row(row, numbers[-1], line)
    return tuple(numbers)


def lattice_rank(rows, width):
    """The rank of some rows of a width."""
    return len(span_of(rows))


def is_in_lattice(rows, row):
    """Whether a row is made of rows."""
    return lead_of(rest_of(basis_of(rows), row)) < 0


def is_in_span(rows, row):
    """Whether a row is spanned by rows."""
    return is_spanned(span_of(rows), row)


def fresh_places(rows):
    """The places of the rows that are not made of the rows ahead of them: these make all."""
    basis = ()
    places = []
    for place, row in enumerate(rows):
        if lead_of(rest_of(basis, row)) >= 0:
            basis = with_row(basis, row)
            places.append(place)
    return places


def traced(rows, places):
    """The Hermite basis of the rows at some places, with behind each of these which one it is.

    So what is left of a row with noughts behind it, this basis being taken off, tells how the row is made.
    """
    return basis_of([rows[place] + unit_row(len(places), number) for number, place in enumerate(places)])


def spread(places, numbers, rows, other):
    """One thing for each of the rows: these numbers at these places, another thing elsewhere."""
    found = {place: number for place, number in zip(places, numbers)}
    return tuple([found.get(place, other) for place in range(len(rows))])


def numbers_for(rows, row):
    """Integers, one for each of the rows, that make a row, None if there are none."""
    width = len(row)
    places = fresh_places(rows)
    rest = rest_of(traced(rows, places), row + noughts(len(places)))
    if lead_of(rest[:width]) >= 0:
        return None
    return spread(places, times_row(-1, rest[width:]), rows, 0)


def fractions_for(rows, row):
    """Fractions, one for each of the rows, that make a row, None if there are none."""
    width = len(row)
    places = fresh_places(rows)
    # The last integer tells by how much the row was multiplied on the way.
    rest = row + noughts(len(places)) + (1,)
    for line in traced(rows, places):
        lead = lead_of(line)
        if lead < width:
            rest = cleared(rest, line + (0,), lead)
    if lead_of(rest[:width]) >= 0:
        return None
    return spread(places, [quotient(-number, rest[-1]) for number in rest[width:-1]], rows, (0, 1))


def bar_for(rows, row):
    """Fractions, one for each place, that bar a row from being made of rows, None if it is made."""
    basis = basis_of(rows)
    parts, left = parts_by(basis, row)
    free = [place for place, (top, bottom) in enumerate(left) if top != 0]
    if len(free) > 0:
        top, bottom = left[free[0]]
        return solved(basis, [(0, 1)] * len(basis), free[0], quotient(bottom, 2 * top), len(row))
    for place, (top, bottom) in enumerate(parts):
        if bottom != 1:
            aims = [(1, 1) if other == place else (0, 1) for other in range(len(basis))]
            return solved(basis, aims, 0, (0, 1), len(row))
    return None


def parts_by(basis, row):
    """The fractions of a basis' rows that clear the leads of a row, and what is left of the row."""
    left = [(number, 1) for number in row]
    parts = []
    for line in basis:
        lead = lead_of(line)
        part = over(left[lead], line[lead])
        left = [less(one, (number * part[0], part[1])) for one, number in zip(left, line)]
        parts.append(part)
    return parts, left


def solved(basis, aims, place, fraction, width):
    """Fractions by which each row of a basis comes to its aim: this one at a place, noughts off the leads."""
    found = [(0, 1)] * width
    found[place] = fraction
    # The rows from the last one on: each lead's fraction is what the places right of it leave to be had.
    for line, aim in reversed(list(zip(basis, aims))):
        lead = lead_of(line)
        found[lead] = (0, 1)
        found[lead] = over(less(aim, weighed(line, found)), line[lead])
    return tuple(found)
