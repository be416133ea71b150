"""Rows of integers from 0 on that are below no other one of some rows, or above no other one.

A row is packed into one integer: each number has so many bits, and ahead of them one that is 0, its guard. One
subtraction tells whether a row is below another one: the other one's guards are put to 1, and stay so exactly if
no number of the row is greater than the other one's.
"""


def bits_for(rows):
    """With how many bits each number of some rows can be packed, its guard counted."""
    return 1 + max([number.bit_length() for row in rows for number in row], default=0)


def packed(row, bits):
    """The integer into which a row is packed."""
    found = 0
    for number in row:
        found = (found << bits) + number
    return found


def guards_of(width, bits):
    """The integer with the guards alone."""
    return packed((1 << (bits - 1),) * width, bits)


def packed_rows(rows, bits, upper):
    """The rows by the integers into which they are packed; if not upper, so that what is above is below there."""
    if upper:
        return {packed(row, bits): row for row in rows}
    greatest = (1 << (bits - 1)) - 1
    return {packed([greatest - number for number in row], bits): row for row in rows}


def is_covered(one, tops, guards):
    """Whether a packed row is below one of some packed ones, which have their guards."""
    for top in tops:
        if (top - one) & guards == guards:
            return True
    return False


def front_of(rows, upper):
    """The ascending tuple of the rows that are below no other one, if not upper, above no other one."""
    bits = bits_for(rows)
    told = packed_rows(rows, bits, upper)
    guards = guards_of(len(rows[0]), bits)
    tops = []
    # From the greatest one down: a row is below none that is behind it.
    for one in sorted(told, reverse=True):
        if not is_covered(one, tops, guards):
            tops.append(one + guards)
    return tuple(sorted([told[top - guards] for top in tops]))


def are_covered(rows, others, upper):
    """Whether each of some rows is below one of the others, if not upper, above one of them."""
    bits = bits_for(list(rows) + list(others))
    guards = guards_of(len(others[0]), bits)
    tops = [top + guards for top in packed_rows(others, bits, upper)]
    return all([is_covered(one, tops, guards) for one in packed_rows(rows, bits, upper)])
