"""Rows of integers and tables of rows, as tuples."""


def is_whole(thing):
    """Whether any value is an integer (True and False are none)."""
    return isinstance(thing, int) and not isinstance(thing, bool)


def is_row(thing):
    """Whether any value is a row."""
    return isinstance(thing, tuple) and all([is_whole(part) for part in thing])


def is_row_of(thing, width):
    """Whether any value is a row of so many integers."""
    return is_row(thing) and len(thing) == width


def are_rows(thing, width):
    """Whether any value is a tuple of rows of one width."""
    return isinstance(thing, tuple) and all([is_row_of(part, width) for part in thing])


def is_table(thing, size):
    """Whether any value is a table of a size."""
    return are_rows(thing, size) and len(thing) == size


def noughts(width):
    """The row of so many noughts."""
    return (0,) * width


def unit_row(width, place):
    """The row of noughts with 1 at one place."""
    return noughts(place) + (1,) + noughts(width - place - 1)


def lead_of(row):
    """The place of the first integer that is not 0, -1 if there is none."""
    for place, number in enumerate(row):
        if number != 0:
            return place
    return -1


def product_of(row, other):
    """The sum of the products of two rows' integers, place by place."""
    return sum([number * further for number, further in zip(row, other)])


def products_of(rows, other):
    """The products of several rows with one row."""
    return tuple([product_of(row, other) for row in rows])


def times_row(number, row):
    """A number times a row."""
    return tuple([number * part for part in row])


def plus_row(row, other):
    """The sum of two rows of one width."""
    return tuple([number + further for number, further in zip(row, other)])


def less_row(row, number, other):
    """A row less a number times another one."""
    return tuple([part - number * further for part, further in zip(row, other)])


def sum_of_rows(numbers, rows, width):
    """The sum of some rows of a width, each times its number."""
    total = noughts(width)
    for number, row in zip(numbers, rows):
        total = plus_row(total, times_row(number, row))
    return total


def led_on(row, table):
    """The sum of the row's integers times the table's rows."""
    parts = [(number, line) for number, line in zip(row, table) if number != 0]
    return tuple([sum([number * line[place] for number, line in parts]) for place in range(len(row))])
