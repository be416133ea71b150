"""What told sums tell of the worth of a ticket, and whether they tell all of each ticket."""

from math import gcd

from tallyhouse.errors import CannotBe
from tallyhouse.kernels import kernel_of
from tallyhouse.lattices import numbers_for
from tallyhouse.prices import are_prices, judge_book, told_amounts, told_rows
from tallyhouse.quotients import are_fractions
from tallyhouse.rows import (are_rows, is_whole, led_on, less_row, noughts, plus_row, product_of, products_of,
                             sum_of_rows, times_row)
from tallyhouse.spans import is_spanned, span_of
from tallyhouse.tickets import are_in_order, is_ticket
from tallyhouse.walks import telling_rows, tickets_behind
from tallyhouse.weights import do_make, mix_of, weights_for


def prices_of(book):
    """Prices of the book; raises CannotBe with a paper "cannot"."""
    paper = judge_book(book)
    if paper[0] == "cannot":
        raise CannotBe(paper)
    return paper[1]


def free_prices(book):
    """Rows of which just the differences of any two prices of the book are made."""
    return kernel_of(told_rows(book), len(book.tally))


def greatest_step(changes):
    """The greatest common divisor of the numbers by which a worth can change."""
    step = 0
    for change in changes:
        step = gcd(step, change)
    return step


def rest_by(worth, step):
    """The rest of a worth."""
    return worth if step == 0 else worth % step


def rest_and_step(book, ticket):
    """The pair (rest, step) of what a ticket can be worth; raises CannotBe with a paper "cannot"."""
    prices = prices_of(book)
    row = book.tally.row(ticket)
    step = greatest_step(products_of(free_prices(book), row))
    return (rest_by(product_of(row, prices), step), step)


def judge_worths(book, ticket):
    """A paper "worths"; raises CannotBe with a paper "cannot"."""
    prices = prices_of(book)
    row = book.tally.row(ticket)
    free = free_prices(book)
    changes = products_of(free, row)
    step = greatest_step(changes)
    further, left = prices, row
    if step > 0:
        numbers = numbers_for(tuple([(change,) for change in changes]), (step,))
        further = plus_row(prices, sum_of_rows(numbers, free, len(row)))
        left = less_row(row, step, steps_within(free, changes, step, len(row)))
    parts = weights_for(told_rows(book), (left,))[0]
    return ("worths", rest_by(product_of(row, prices), step), step, prices, further, parts)


def steps_within(free, changes, step, width):
    """A row by which each change is its product with the free prices, times the step.

    There is one, as the free prices make each row of integers that they span. The row of the ticket less so many
    steps changes by no free prices: so it is spanned by the told rows.
    """
    columns = tuple([tuple([line[state] for line in free]) for state in range(width)])
    return numbers_for(columns, tuple([change // step for change in changes]))


def worths_hold(book, ticket, thing):
    """Whether any value is a paper "worths" (none is for a book that cannot be)."""
    if not isinstance(thing, tuple) or len(thing) != 6 or thing[0] != "worths":
        return False
    word, rest, step, prices, further, parts = thing
    if not is_whole(rest) or not is_whole(step) or step < 0 or rest != rest_by(rest, step):
        return False
    if not are_prices(book, prices) or not are_prices(book, further) or not are_fractions(parts, len(book)):
        return False
    row = book.tally.row(ticket)
    worth = product_of(row, prices)
    if rest_by(worth, step) != rest or product_of(row, further) != worth + step:
        return False
    return do_leave_steps(book, row + (rest,), step, parts)


def do_leave_steps(book, row, step, parts):
    """Whether a row with a rest, less fractions of the told rows with their amounts, leaves multiples of the step."""
    rows = [told + (amount,) for told, amount in zip(told_rows(book), told_amounts(book))]
    total, bottom = mix_of(parts, rows, len(row))
    left = less_row(times_row(bottom, row), 1, total)
    if step == 0:
        return left == noughts(len(row))
    return all([number % (bottom * step) == 0 for number in left])


def is_told(book, ticket):
    """Whether the row of a ticket is spanned by the told rows."""
    return is_spanned(span_of(told_rows(book)), book.tally.row(ticket))


def first_open_pair(book):
    """The first ticket that is not told, and its row; None if all are told.

    If all tickets ahead of it are told, those whose rows theirs span are told, too.
    """
    basis = span_of(told_rows(book))
    for ticket, row in telling_rows(book.tally):
        if not is_spanned(basis, row):
            return ticket, row
    return None


def first_open(book):
    """The first ticket that is not told, None if all are."""
    pair = first_open_pair(book)
    return None if pair is None else pair[0]


def judge_all(book):
    """A paper "all", or "open" with the first ticket."""
    found = first_open_pair(book)
    if found is not None:
        first, open_row = found
        further = [prices for prices in free_prices(book) if product_of(open_row, prices) != 0]
        return ("open", first, noughts(len(open_row)), further[0])
    # The empty ticket is asked for also if its row has noughts alone, and tells nothing.
    pairs = [("", book.tally.start)] + [pair for pair in telling_rows(book.tally) if pair[0] != ""]
    rows = [row for ticket, row in pairs]
    further = [weights_for(rows, [led for longer, led in tickets_behind(book.tally, ticket, row)])
               for ticket, row in pairs]
    return ("all", tuple([ticket for ticket, row in pairs]), weights_for(told_rows(book), rows), tuple(further))


def all_holds(book, thing):
    """Whether any value is a paper "all" or "open"."""
    if not isinstance(thing, tuple) or len(thing) != 4:
        return False
    if thing[0] == "all":
        return do_tell_all(book, thing[1:])
    return thing[0] == "open" and is_ticket(book.tally.digits, thing[1]) and does_open(book, thing[1], thing[2:])


def does_open(book, ticket, pair):
    """Whether a pair's values are integers for the states that no told row tells apart, but the ticket's row does."""
    if not are_rows(pair, len(book.tally)):
        return False
    rows = told_rows(book)
    if products_of(rows, pair[0]) != products_of(rows, pair[1]):
        return False
    row = book.tally.row(ticket)
    return product_of(row, pair[0]) != product_of(row, pair[1])


def do_tell_all(book, thing):
    """Whether three values are the tickets and the fractions of a paper "all"."""
    tickets, parts, further = thing
    digits = book.tally.digits
    if not are_in_order(digits, tickets) or tickets[:1] != ("",):
        return False
    if not isinstance(further, tuple) or len(further) != len(tickets) or not are_lines(parts, len(tickets), len(book)):
        return False
    if not all([are_lines(lines, len(digits), len(tickets)) for lines in further]):
        return False
    rows = [book.tally.row(ticket) for ticket in tickets]
    given = told_rows(book)
    if not all([do_make(line, given, row) for line, row in zip(parts, rows)]):
        return False
    return all([do_make(line, rows, led_on(row, table)) for lines, row in zip(further, rows)
                for line, table in zip(lines, book.tally.tables)])


def are_lines(thing, many, width):
    """Whether any value is a tuple of so many tuples of so many fractions."""
    return isinstance(thing, tuple) and len(thing) == many and all([are_fractions(part, width) for part in thing])
