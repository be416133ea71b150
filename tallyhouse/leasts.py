"""The rank of a tally, its tellers and marks, and its least tally."""

from tallyhouse.determinants import determinant, inverse_of
from tallyhouse.lattices import numbers_by, rest_of, with_row
from tallyhouse.rows import lead_of, led_on, products_of
from tallyhouse.spans import widened
from tallyhouse.tables import table_product
from tallyhouse.tallies import Tally, check_ticket, column_behind
from tallyhouse.tickets import is_ticket
from tallyhouse.walks import telling_rows


def teller_columns(tally):
    """For each teller, in order, the pair of it and of what it makes of each state: the table's product with the ends.

    A ticket whose last digits are no teller is none: so each one has a digit ahead of one that is shorter.
    """
    rows = [row for ticket, row in telling_rows(tally)]
    basis = []
    found = []
    waiting = [("", tally.ends)]
    while len(waiting) > 0:
        fresh = []
        for ticket, column in waiting:
            wider = widened(basis, products_of(rows, column))
            if len(wider) > len(basis):
                basis = wider
                fresh.append((ticket, column))
        found.extend(fresh)
        waiting = [(digit + ticket, products_of(table, column))
                   for digit, table in zip(tally.digits, tally.tables) for ticket, column in fresh]
    return found


def columns_of(tally):
    """What the tellers make of each state."""
    return [column for ticket, column in teller_columns(tally)]


def rank(tally):
    """The least number of states of tallies that are the same."""
    return len(teller_columns(tally))


def tellers(tally):
    """The tuple of the tellers."""
    return tuple([ticket for ticket, column in teller_columns(tally)])


def marks(tally, ticket):
    """The worths of a ticket with the tellers behind it."""
    check_ticket(tally.digits, ticket)
    return products_of(columns_of(tally), tally.row(ticket))


def marked_rows(tally, columns):
    """Pairs (ticket, row), as many as the rank, whose marks do not span each other."""
    basis = []
    found = []
    for ticket, row in telling_rows(tally):
        wider = widened(basis, products_of(columns, row))
        if len(wider) > len(basis):
            basis = wider
            found.append((ticket, row))
    return found


def least(tally):
    """The one least tally that is the same."""
    columns = columns_of(tally)
    tables, bottom = mark_tables(tally, columns)
    start = products_of(columns, tally.start)
    basis = mark_basis(start, tables, bottom)
    led = [tuple([numbers_by(basis, marks_on(line, table, bottom)) for line in basis]) for table in tables]
    return Tally(tally.digits, numbers_by(basis, start), tuple(led), tuple([line[0] for line in basis]))


def mark_tables(tally, columns):
    """For each digit the table that leads marks on, and what all of them are to be divided by."""
    rows = [row for ticket, row in marked_rows(tally, columns)]
    back, bottom = inverse_of([products_of(columns, row) for row in rows])
    tables = []
    for table in tally.tables:
        tables.append(table_product(back, [products_of(columns, led_on(row, table)) for row in rows]))
    return tables, bottom


def marks_on(row, table, bottom):
    """The marks, or what is made of some, to which a digit's table leads on."""
    return tuple([number // bottom for number in led_on(row, table)])


def mark_basis(start, tables, bottom):
    """The Hermite basis of the lattice of all marks."""
    basis = ()
    waiting = [start]
    while len(waiting) > 0:
        # What a row leaves of the lattice so far will do: the rest is led on with the lattice's own rows.
        rest = rest_of(basis, waiting.pop())
        if lead_of(rest) >= 0:
            basis = with_row(basis, rest)
            waiting.extend([marks_on(rest, table, bottom) for table in tables])
    return basis


def is_least(tally):
    """Whether a tally is its own least one."""
    return tally == least(tally)


def witnesses(tally):
    """A pair of tuples of tickets, ahead and behind, whose worths have a determinant other than 0."""
    rows = marked_rows(tally, columns_of(tally))
    return (tuple([ticket for ticket, row in rows]), tellers(tally))


def witnesses_hold(tally, number, thing):
    """Whether any value is a pair of two tuples of so many tickets whose determinant is not 0."""
    if not isinstance(thing, tuple) or len(thing) != 2:
        return False
    if not all([are_tickets(tally.digits, part, number) for part in thing]):
        return False
    # Ahead of the determinant: more tickets than the rank have none other than 0, however many there are.
    if number > rank(tally):
        return False
    columns = [column_behind(tally, ticket) for ticket in thing[1]]
    return determinant([products_of(columns, tally.row(ticket)) for ticket in thing[0]]) != 0


def are_tickets(digits, thing, number):
    """Whether any value is a tuple of so many tickets over the digits."""
    return isinstance(thing, tuple) and len(thing) == number and all([is_ticket(digits, part) for part in thing])
