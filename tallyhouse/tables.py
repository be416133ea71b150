"""Tables, put together and multiplied."""

from tallyhouse.rows import led_on, noughts, plus_row, times_row, unit_row


def unit_table(size):
    """The table that leads each row on to itself."""
    return tuple([unit_row(size, place) for place in range(size)])


def table_product(table, other):
    """The table that leads on as both do, the first one ahead."""
    return tuple([led_on(row, other) for row in table])


def table_sum(tables, size):
    """The table that leads each row on to the sum of what the tables lead it on to."""
    total = (noughts(size),) * size
    for table in tables:
        total = tuple([plus_row(row, other) for row, other in zip(total, table)])
    return total


def turned_table(table):
    """The table with its rows as columns."""
    return tuple([tuple([row[place] for row in table]) for place in range(len(table))])


def blocks_of(table, corner, other):
    """One table with two along its diagonal, and the corner's rows right of the first one."""
    above = [row + further for row, further in zip(table, corner)]
    below = [noughts(len(table)) + row for row in other]
    return tuple(above + below)


def row_pairs(row, other):
    """All products of an integer of one row with one of another, the first row's place counting more."""
    return tuple([number * further for number in row for further in other])


def table_pairs(table, other):
    """The table that leads on products of two rows as the two tables lead on each of them."""
    return tuple([row_pairs(row, further) for row in table for further in other])


def rows_times(numbers, row):
    """For each number, so many times the row."""
    return tuple([times_row(number, row) for number in numbers])
