"""Lots: which tickets to ask for, such that each ticket is told."""

from tallyhouse.prices import Book, told_rows
from tallyhouse.rows import product_of
from tallyhouse.spans import span_of, widened
from tallyhouse.tickets import are_in_order
from tallyhouse.walks import telling_rows


def to_ask(book):
    """The first cheapest lot.

    Ticket by ticket in order, each one is asked that is not told by then: of no lot that is enough a ticket, place by
    place, is ahead of this one's. A ticket whose row those ahead span is told by then, so it need not be looked at.
    """
    basis = span_of(told_rows(book))
    found = []
    for ticket, row in telling_rows(book.tally):
        wider = widened(basis, row)
        if len(wider) > len(basis):
            basis = wider
            found.append(ticket)
    return tuple(found)


def is_lot(book, thing):
    """Whether any value is a lot."""
    return are_in_order(book.tally.digits, thing)


def is_enough(book, lot):
    """Whether each ticket is told if all of the lot are asked."""
    rows = told_rows(book) + tuple([book.tally.row(ticket) for ticket in lot])
    return len(span_of(rows)) == len(telling_rows(book.tally))


def is_cheapest(book, lot):
    """Whether a lot is a cheapest one."""
    best = to_ask(book)
    return len(lot) == len(best) and cost_of(lot) == cost_of(best) and is_enough(book, lot)


def cost_of(lot):
    """How many digits the tickets of a lot have together."""
    return sum([len(ticket) for ticket in lot])


def asked(book, lot, prices):
    """The book with the told sums of a lot behind its own, as prices tell them."""
    found = [(ticket, ticket, product_of(book.tally.row(ticket), prices)) for ticket in lot]
    return Book(book.tally, book.told + tuple(found))
