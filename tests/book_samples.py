"""Books for the tests, and what the document says of their papers, by fractions and ticket by ticket."""

import random
from fractions import Fraction

from tallyhouse.prices import Book
from tallyhouse.tallies import Tally
from tests.samples import (BOTH, DIGITSUM, EMPTY, ODD, ONE, ONES, PAIRS, TWOS, VALUE, brute_rank, brute_roll, brute_tickets,
                           led, lowest_terms, made_up_tally)

BOOK = Book(ONES, (("00", "01", 5),))
THREE = Book(ONES, (("0", "0", 1), ("00", "01", 4), ("1", "1", 2)))
EIGHT = Book(ONES, (("00", "11", 8),))
# Its start has noughts alone, so each ticket is worth nothing.
STILL = Tally("01", (0, 0), (((1, 0), (0, 1)), ((1, 1), (0, 1))), (1, 1))


def row_of(tally, ticket):
    """The row of a ticket."""
    row = tally.start
    for digit in ticket:
        row = led(row, tally.tables[tally.digits.index(digit)])
    return row


def row_of_range(tally, low, high):
    """The sum of the rows of a range, ticket by ticket."""
    rows = [row_of(tally, ticket) for ticket in brute_roll(tally.digits, len(low)) if low <= ticket <= high]
    return tuple(sum(row[k] for row in rows) for k in range(len(tally)))


def rows_of(book):
    """The told rows."""
    return [row_of_range(book.tally, low, high) for low, high, amount in book.told]


def amounts_of(book):
    return [amount for low, high, amount in book.told]


def times(row, other):
    return sum(a * b for a, b in zip(row, other))


def mixed(parts, rows, width):
    """The sum of the rows, each times its fraction."""
    return [sum((Fraction(*part) * row[k] for part, row in zip(parts, rows)), Fraction(0)) for k in range(width)]


def are_parts(thing, many):
    """Whether a value is a tuple of so many fractions."""
    return type(thing) is tuple and len(thing) == many and all(lowest_terms(part) for part in thing)


def are_integers(thing, many):
    return type(thing) is tuple and len(thing) == many and all(type(part) is int for part in thing)


def is_over(digits, thing):
    return type(thing) is str and all(sign in digits for sign in thing)


def are_right_prices(book, thing):
    return are_integers(thing, len(book.tally)) and [times(row, thing) for row in rows_of(book)] == amounts_of(book)


def is_right_book_paper(book, thing):
    """Whether a value is a paper "can" or "cannot", by the words of the document."""
    if type(thing) is not tuple or len(thing) != 2 or type(thing[0]) is not str:
        return False
    if thing[0] == "can":
        return are_right_prices(book, thing[1])
    if thing[0] != "cannot" or not are_parts(thing[1], len(book.told)):
        return False
    row = mixed(thing[1], rows_of(book), len(book.tally))
    amount = sum((Fraction(*part) * amount for part, amount in zip(thing[1], amounts_of(book))), Fraction(0))
    return all(part.denominator == 1 for part in row) and amount.denominator != 1


def is_right_worths_paper(book, ticket, thing):
    """Whether a value is a paper "worths", by the words of the document."""
    if type(thing) is not tuple or len(thing) != 6 or type(thing[0]) is not str or thing[0] != "worths":
        return False
    word, rest, step, prices, further, parts = thing
    if type(rest) is not int or type(step) is not int or step < 0 or (step > 0 and not 0 <= rest < step):
        return False
    if not are_right_prices(book, prices) or not are_right_prices(book, further) or not are_parts(parts, len(book.told)):
        return False

    def is_multiple(number):
        return number == 0 if step == 0 else number.denominator == 1 and number % step == 0

    row = row_of(book.tally, ticket)
    worth = times(row, prices)
    if not is_multiple(Fraction(worth - rest)) or times(row, further) != worth + step:
        return False
    left = [number - part for number, part in zip(row, mixed(parts, rows_of(book), len(row)))]
    amount = sum((Fraction(*part) * amount for part, amount in zip(parts, amounts_of(book))), Fraction(0))
    return all(is_multiple(number) for number in left) and is_multiple(rest - amount)


def is_right_all_paper(book, thing):
    """Whether a value is a paper "all" or "open", by the words of the document."""
    if type(thing) is not tuple or len(thing) != 4 or type(thing[0]) is not str:
        return False
    tally, rows, size = book.tally, rows_of(book), len(book.tally)
    if thing[0] == "open":
        word, ticket, prices, further = thing
        if not is_over(tally.digits, ticket) or not are_integers(prices, size) or not are_integers(further, size):
            return False
        if any(times(row, prices) != times(row, further) for row in rows):
            return False
        return times(row_of(tally, ticket), prices) != times(row_of(tally, ticket), further)
    word, tickets, parts, further = thing
    if word != "all" or type(tickets) is not tuple or not all(is_over(tally.digits, ticket) for ticket in tickets):
        return False
    if len(tickets) == 0 or tickets[0] != "":
        return False
    keys = [(len(ticket), ticket) for ticket in tickets]
    if any(one >= other for one, other in zip(keys, keys[1:])):
        return False
    many = len(tickets)
    if type(parts) is not tuple or len(parts) != many or not all(are_parts(part, len(book.told)) for part in parts):
        return False
    if type(further) is not tuple or len(further) != many:
        return False
    for lines in further:
        if type(lines) is not tuple or len(lines) != len(tally.digits) or not all(are_parts(line, many) for line in lines):
            return False
    own = [row_of(tally, ticket) for ticket in tickets]
    for k in range(many):
        if mixed(parts[k], rows, size) != list(own[k]):
            return False
        for line, table in zip(further[k], tally.tables):
            if mixed(line, own, size) != list(led(own[k], table)):
                return False
    return True


def brute_is_told(book, ticket):
    """Whether the row of a ticket comes from the told rows by fractions."""
    rows = rows_of(book)
    return len(book.tally) == 0 or brute_rank(rows + [row_of(book.tally, ticket)]) == brute_rank(rows)


def brute_first_open(book):
    """The first ticket that is not told, of all that have fewer digits than the tally has states."""
    for ticket in brute_tickets(book.tally.digits, max(len(book.tally) - 1, 0)):
        if not brute_is_told(book, ticket):
            return ticket
    return None


def made_up_told(chance, tally, many, longest=3, prices=None):
    """Told sums: as some prices tell them, or of any amounts."""
    told = []
    for _ in range(many):
        length = chance.randint(0, longest)
        low, high = sorted("".join(chance.choice(tally.digits) for _ in range(length)) for _ in range(2))
        amount = chance.randint(-9, 9) if prices is None else times(row_of_range(tally, low, high), prices)
        told.append((low, high, amount))
    return tuple(told)


def made_up_books():
    """Books of all sizes: many of them can be, some cannot."""
    chance = random.Random(8)
    tallies = [ONES, VALUE, DIGITSUM, ODD, PAIRS, BOTH, ONE, TWOS, EMPTY, STILL]
    tallies += [made_up_tally(seed, digits, size, -3, 3, 0.4) for seed in range(2) for digits in ("0", "17", "012")
                for size in range(1, 5)]
    found = [BOOK, THREE, EIGHT, Book(ONES, ()), Book(EMPTY, ()), Book(EMPTY, (("0", "1", 0),)),
             Book(EMPTY, (("0", "1", 0), ("", "", -3))), Book(ONES, (("0", "1", 3), ("0", "1", 3))),
             Book(ONES, (("0", "1", 3), ("0", "1", 4))), Book(ONES, (("00", "11", 6),)), Book(STILL, (("0", "1", 2),)),
             Book(STILL, ())]
    for tally in tallies:
        for many in (1, 2, 3, 5):
            prices = tuple(chance.randint(-5, 5) for _ in range(len(tally)))
            found.append(Book(tally, made_up_told(chance, tally, many, 3, prices)))
            if many < 4:
                found.append(Book(tally, made_up_told(chance, tally, many)))
    return found


BOOKS = made_up_books()
