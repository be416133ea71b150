"""What is spanned by rows: bases of rows by each of whose leads the later rows are cleared."""

from math import gcd

from tallyhouse.rows import lead_of


def primitive(row):
    """A row by the greatest common divisor of its integers."""
    common = 0
    for number in row:
        common = gcd(common, number)
    if common < 2:
        return row
    return tuple([number // common for number in row])


def cleared(row, line, lead):
    """A multiple of a row, less one of a line, such that 0 is left at the line's lead."""
    if row[lead] == 0:
        return row
    common = gcd(line[lead], row[lead])
    kept, taken = line[lead] // common, row[lead] // common
    return tuple([kept * number - taken * further for number, further in zip(row, line)])


def left_of(basis, row):
    """What a basis leaves of a row, as a primitive row: noughts exactly if the row is spanned."""
    for lead, line in basis:
        row = cleared(row, line, lead)
    return primitive(row)


def widened(basis, row):
    """A basis that spans this row, too: the same one, if it does already."""
    left = left_of(basis, row)
    lead = lead_of(left)
    if lead < 0:
        return basis
    return basis + [(lead, left)]


def span_of(rows):
    """A basis of what some rows span."""
    basis = []
    for row in rows:
        basis = widened(basis, row)
    return basis


def is_spanned(basis, row):
    """Whether a row is spanned by a basis."""
    return lead_of(left_of(basis, row)) < 0
