"""Tallies made of tallies."""

from tallyhouse.errors import OtherDigits
from tallyhouse.rows import noughts, product_of, products_of, times_row, unit_row
from tallyhouse.tables import blocks_of, row_pairs, rows_times, table_pairs, turned_table
from tallyhouse.tallies import Tally, check_ticket, column_behind


def check_digits(one, other):
    """Raises OtherDigits if two tallies have unlike digits."""
    if one.digits != other.digits:
        raise OtherDigits()


def beside(table, other):
    """Two tables that lead on each part of a row by itself."""
    return blocks_of(table, (noughts(len(other)),) * len(table), other)


def side_by_side(one, other, number):
    """The tally of the worth by one and a number times that by other."""
    check_digits(one, other)
    tables = [beside(table, further) for table, further in zip(one.tables, other.tables)]
    return Tally(one.digits, one.start + other.start, tuple(tables), one.ends + times_row(number, other.ends))


def added(one, other):
    """A tally of the sums of the worths."""
    return side_by_side(one, other, 1)


def lessened(one, other):
    """A tally of the worths by one less those by other."""
    return side_by_side(one, other, -1)


def times(number, tally):
    """A tally of a number times the worths."""
    return Tally(tally.digits, tally.start, tally.tables, times_row(number, tally.ends))


def multiplied(one, other):
    """A tally of the products of the worths."""
    check_digits(one, other)
    tables = [table_pairs(table, further) for table, further in zip(one.tables, other.tables)]
    return Tally(one.digits, row_pairs(one.start, other.start), tuple(tables), row_pairs(one.ends, other.ends))


def met(one, other):
    """A tally of the sums over all cuts of a ticket in two of the products of the parts' worths."""
    check_digits(one, other)
    # Its rows are one's row, and behind it the sum of other's rows of all second parts,
    # each times the first part's worth: with each digit a cut behind it joins them.
    tables = []
    for table, further in zip(one.tables, other.tables):
        tables.append(blocks_of(table, rows_times(products_of(table, one.ends), other.start), further))
    start = one.start + times_row(product_of(one.start, one.ends), other.start)
    return Tally(one.digits, start, tuple(tables), noughts(len(one)) + other.ends)


def turned(tally):
    """A tally of the worths of the tickets read from behind."""
    return Tally(tally.digits, tally.ends, tuple([turned_table(table) for table in tally.tables]), tally.start)


def ahead(tally, ticket):
    """A tally of the worths with this ticket ahead."""
    return Tally(tally.digits, tally.row(ticket), tally.tables, tally.ends)


def behind(tally, ticket):
    """A tally of the worths with this ticket behind."""
    check_ticket(tally.digits, ticket)
    return Tally(tally.digits, tally.start, tally.tables, column_behind(tally, ticket))


def nought(digits):
    """The tally without states."""
    return Tally(digits, (), ((),) * len(digits), ())


def lone(digits, ticket):
    """A count by which this ticket is worth 1, all others 0."""
    check_ticket(digits, ticket)
    size = len(ticket) + 1
    tables = tuple([lone_table(ticket, digit, size) for digit in digits])
    return Tally(digits, unit_row(size, 0), tables, unit_row(size, size - 1))


def lone_table(ticket, digit, size):
    """The table by which a digit leads from each place of the ticket where it stands to the next one."""
    rows = [unit_row(size, place + 1) if sign == digit else noughts(size) for place, sign in enumerate(ticket)]
    return tuple(rows + [noughts(size)])
