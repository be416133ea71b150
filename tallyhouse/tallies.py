"""Tallies: what tickets are worth, told by rows that are led on digit by digit."""

from tallyhouse.errors import BadTally, BadText, BadTicket
from tallyhouse.rows import is_row, is_row_of, is_table, led_on, product_of, products_of
from tallyhouse.tables import table_product, unit_table
from tallyhouse.texts import (digits_at, end_at, lines_of, numbers_of, row_text, worded_row_at, worded_text,
                              words_at)
from tallyhouse.tickets import are_digits, is_ticket


class Tally:
    """A machine with whole numbers that tells the worth of each ticket over its digits."""

    def __init__(self, digits, start, tables, ends):
        if not are_digits(digits):
            raise BadTally("digits")
        if not is_row(start):
            raise BadTally("start")
        if not are_tables(tables, len(digits), len(start)):
            raise BadTally("tables")
        if not is_row_of(ends, len(start)):
            raise BadTally("ends")
        self.digits = digits
        self.start = start
        self.tables = tables
        self.ends = ends

    def __len__(self):
        return len(self.start)

    def __eq__(self, other):
        return (isinstance(other, Tally) and self.digits == other.digits and self.start == other.start
                and self.tables == other.tables and self.ends == other.ends)

    def __str__(self):
        return "\n".join(tally_lines(self.digits, self.start, self.tables, self.ends))

    @classmethod
    def read(cls, text):
        """The tally of a text; raises BadText with the first line that is not right."""
        lines = lines_of(text)
        digits = digits_at(lines, 0, "tally")
        start = worded_row_at(lines, 1, "start")
        number = 2
        tables = []
        for digit in digits:
            tables.append(table_at(lines, number, digit, len(start)))
            number += 1 + len(start)
        ends = worded_row_at(lines, number, "ends")
        if len(ends) != len(start):
            raise BadText(number)
        end_at(lines, number + 1)
        return cls(digits, start, tuple(tables), ends)

    def row(self, ticket):
        """The start, led on by the tables of the ticket's digits."""
        check_ticket(self.digits, ticket)
        return led_through(self.digits, self.tables, self.start, ticket)

    def worth(self, ticket):
        """The product of the ticket's row with the ends."""
        return product_of(self.row(ticket), self.ends)

    def table(self, ticket):
        """The table that leads each row on as the ticket's digits do."""
        check_ticket(self.digits, ticket)
        found = unit_table(len(self.start))
        for digit in ticket:
            found = table_product(found, self.tables[self.digits.index(digit)])
        return found

    @property
    def is_count(self):
        """Whether it has no numbers below 0."""
        rows = [self.start, self.ends] + [row for table in self.tables for row in table]
        return all([number >= 0 for row in rows for number in row])


def are_tables(thing, many, size):
    """Whether any value is a tuple of so many tables of a size."""
    return isinstance(thing, tuple) and len(thing) == many and all([is_table(part, size) for part in thing])


def check_ticket(digits, thing):
    """Raises BadTicket for any value that is no ticket over the digits."""
    if not is_ticket(digits, thing):
        raise BadTicket(thing)


def led_through(digits, tables, row, ticket):
    """What a row is led on to by the tables of a ticket's digits."""
    for digit in ticket:
        row = led_on(row, tables[digits.index(digit)])
    return row


def column_behind(tally, ticket):
    """What a ticket makes of each state: the worth that a 1 in its place, led on by the ticket, comes to."""
    column = tally.ends
    for digit in ticket[::-1]:
        column = products_of(tally.tables[tally.digits.index(digit)], column)
    return column


def tally_lines(digits, start, tables, ends):
    """The lines of a tally's text."""
    middle = [line for digit, table in zip(digits, tables) for line in table_lines(digit, table)]
    return ["tally " + digits, worded_text("start", start)] + middle + [worded_text("ends", ends)]


def table_lines(digit, table):
    """The lines of a digit's table."""
    return ["table " + digit] + [row_text(row) for row in table]


def table_at(lines, number, digit, size):
    """The table of a digit that begins at a line."""
    if words_at(lines, number) != ["table", digit]:
        raise BadText(number)
    return tuple([row_at(lines, number + 1 + place, size) for place in range(size)])


def row_at(lines, number, width):
    """The row of a line of integers alone."""
    row = numbers_of(words_at(lines, number), number)
    if len(row) != width:
        raise BadText(number)
    return row
