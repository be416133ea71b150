"""The rows of integers that have the product 0 with some rows, and the multiples of rows that lattices have."""

from math import lcm

from tallyhouse.lattices import basis_of, parts_by
from tallyhouse.rows import lead_of, unit_row
from tallyhouse.spans import span_of


def kernel_of(rows, width):
    """The Hermite basis of the lattice of all rows of a width whose product with each of some rows is 0."""
    lines = [line for lead, line in span_of(rows)]
    # What is made of the units has its products with the lines ahead of it: it is asked for where these are noughts.
    told = [tuple([line[place] for line in lines]) + unit_row(width, place) for place in range(width)]
    return tuple([row[len(lines):] for row in basis_of(told) if lead_of(row) >= len(lines)])


def multiple_by(basis, row):
    """The least number from 1 on by which a row is in the lattice of a Hermite basis, None if it is not spanned."""
    parts, left = parts_by(basis, row)
    if any([top != 0 for top, bottom in left]):
        return None
    found = 1
    for top, bottom in parts:
        found = lcm(found, bottom)
    return found


def step_by(basis, width):
    """The least number from 1 on by which each row of integers that a Hermite basis spans is in its lattice."""
    found = 1
    for row in kernel_of(kernel_of(basis, width), width):
        found = lcm(found, multiple_by(basis, row))
    return found
