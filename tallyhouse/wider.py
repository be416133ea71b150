"""Digits otherwise: tallies read through words, merged digits, and digits that count alike."""

from tallyhouse.errors import BadDigit
from tallyhouse.leasts import least, teller_columns
from tallyhouse.rows import led_on, less_row, plus_row, product_of
from tallyhouse.sames import are_same
from tallyhouse.tallies import Tally, led_through
from tallyhouse.tickets import are_digits, is_digit, is_ticket
from tallyhouse.walks import telling_rows


def is_reading(tally, thing):
    """Whether any value is a reading for a tally: digits, and a word for each of them."""
    if not isinstance(thing, tuple) or len(thing) != 2:
        return False
    digits, words = thing
    if not are_digits(digits) or not isinstance(words, tuple) or len(words) != len(digits):
        return False
    return all([is_ticket(tally.digits, word) for word in words])


def read_through(tally, reading):
    """A tally over the reading's digits: each ticket is worth what the words of its digits are."""
    digits, words = reading
    return Tally(digits, tally.start, tuple([tally.table(word) for word in words]), tally.ends)


def merged(tally, kept, other):
    """A tally without the other digit, the kept one standing for both in each place; raises BadDigit."""
    for digit in (kept, other):
        if not is_digit(tally.digits, digit):
            raise BadDigit(digit)
    if kept == other:
        raise BadDigit(other)
    further = tally.tables[tally.digits.index(other)]
    tables = []
    for digit, table in zip(tally.digits, tally.tables):
        if digit == kept:
            tables.append(tuple([plus_row(row, more) for row, more in zip(table, further)]))
        if digit not in (kept, other):
            tables.append(table)
    return Tally("".join([digit for digit in tally.digits if digit != other]), tally.start, tuple(tables), tally.ends)


def exchanged_by(tally, order):
    """The tally over its first digits, as many as the order has, by which each stands for the one of the order."""
    tables = tuple([tally.tables[tally.digits.index(digit)] for digit in order])
    return Tally(tally.digits[:len(order)], tally.start, tables, tally.ends)


def symmetries(tally):
    """The ascending tuple of the symmetries."""
    told = least(tally)
    orders = [""]
    # Digit by digit: the beginning of a symmetry leaves the worths of the tickets over as many first digits.
    for many in range(1, len(told.digits) + 1):
        plain = exchanged_by(told, told.digits[:many])
        longer = [order + digit for order in orders for digit in told.digits if digit not in order]
        orders = [order for order in longer if are_same(plain, exchanged_by(told, order))]
    return tuple(orders)


def is_free_of_order(tally):
    """Whether tickets with the same numbers of each digit have the same worth."""
    return order_apart(tally) is None


def is_by_length(tally):
    """Whether tickets of the same length have the same worth."""
    return length_apart(tally) is None


def order_apart(tally):
    """A paper that shows that it is not free of order, None if it is."""
    return first_paper(tally, order_change)


def length_apart(tally):
    """A paper that shows that it does not go by length, None if it does."""
    return first_paper(tally, length_change)


def order_apart_holds(tally, thing):
    """Whether any value is a paper that shows that a tally is not free of order."""
    return is_paper(tally, thing) and does_matter(tally, thing, order_change)


def length_apart_holds(tally, thing):
    """Whether any value is a paper that shows that a tally does not go by length."""
    return is_paper(tally, thing) and does_matter(tally, thing, length_change)


def order_change(tally, row, one, other):
    """What a row is led on to by two digits of these places, less what it is by the second one ahead of the first."""
    tables = tally.tables
    return less_row(led_on(led_on(row, tables[one]), tables[other]), 1, led_on(led_on(row, tables[other]), tables[one]))


def length_change(tally, row, one, other):
    """What a row is led on to by the digit of the one place, less what it is by that of the other place."""
    return less_row(led_on(row, tally.tables[one]), 1, led_on(row, tally.tables[other]))


def first_paper(tally, change):
    """A paper for what two digits change, None if it is worth nothing, whatever is ahead and behind.

    The rows of the tickets that tell span all rows, and the tellers tell all rows apart that any tickets do.
    """
    told = least(tally)
    rows = telling_rows(told)
    columns = teller_columns(told)
    for other, digit in enumerate(told.digits):
        for one in range(other):
            for ahead, row in rows:
                changed = change(told, row, one, other)
                for behind, column in columns:
                    if product_of(changed, column) != 0:
                        return ("apart", ahead, told.digits[one], digit, behind)
    return None


def is_paper(tally, thing):
    """Whether any value is "apart" with a ticket, two digits and a ticket."""
    if not isinstance(thing, tuple) or len(thing) != 5 or thing[0] != "apart":
        return False
    word, ahead, one, other, behind = thing
    if not is_ticket(tally.digits, ahead) or not is_ticket(tally.digits, behind):
        return False
    return is_digit(tally.digits, one) and is_digit(tally.digits, other)


def does_matter(tally, paper, change):
    """Whether what the two digits of a paper change between its tickets is worth something."""
    word, ahead, one, other, behind = paper
    changed = change(tally, tally.row(ahead), tally.digits.index(one), tally.digits.index(other))
    return product_of(led_through(tally.digits, tally.tables, changed, behind), tally.ends) != 0
