"""Whether two tallies are the same, and the papers that show it."""

from tallyhouse.making import lessened
from tallyhouse.rows import are_rows, led_on, product_of
from tallyhouse.spans import is_spanned, span_of
from tallyhouse.tickets import is_ticket
from tallyhouse.walks import telling_rows


def are_same(one, other):
    """Whether each ticket has the same worth by both; raises OtherDigits."""
    return first_apart(one, other) is None


def first_apart(one, other):
    """The first ticket with unlike worths, None if there is none; raises OtherDigits."""
    # The rows of the difference are the joint rows, and the first ticket with a worth is one of those that tell.
    difference = lessened(one, other)
    for ticket, row in telling_rows(difference):
        if product_of(row, difference.ends) != 0:
            return ticket
    return None


def judge_same(one, other):
    """A paper "same" or "apart", with the first ticket apart; raises OtherDigits."""
    ticket = first_apart(one, other)
    if ticket is not None:
        return ("apart", ticket)
    return ("same", tuple([row for ticket, row in telling_rows(lessened(one, other))]))


def same_holds(one, other, thing):
    """Whether any value is a paper "same" or "apart"; raises OtherDigits."""
    difference = lessened(one, other)
    if not isinstance(thing, tuple) or len(thing) != 2:
        return False
    if thing[0] == "apart":
        return is_ticket(one.digits, thing[1]) and difference.worth(thing[1]) != 0
    return thing[0] == "same" and are_rows(thing[1], len(difference)) and do_show_same(difference, thing[1])


def do_show_same(difference, rows):
    """Whether rows span the start and what they are led on to, and are worth nothing by the difference."""
    basis = span_of(rows)
    if not is_spanned(basis, difference.start) or any([product_of(row, difference.ends) != 0 for row in rows]):
        return False
    # What is true of the rows of the basis is true of all rows that they span.
    return all([is_spanned(basis, led_on(line, table)) for table in difference.tables for lead, line in basis])
