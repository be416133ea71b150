"""Books: tallies whose ends are not known, and told sums of ranges. Whether there are prices that make them so."""

from tallyhouse.errors import BadTold
from tallyhouse.lattices import bar_for, numbers_for
from tallyhouse.quotients import are_fractions
from tallyhouse.ranges import range_row
from tallyhouse.rows import is_row_of, is_whole, product_of
from tallyhouse.tickets import is_stretch
from tallyhouse.weights import mix_of


class Book:
    """A tally, whose ends play no part, and told sums (low, high, amount) of ranges of tickets."""

    def __init__(self, tally, told):
        if not isinstance(told, tuple):
            raise BadTold(-1)
        for number, item in enumerate(told):
            if not is_told_sum(tally.digits, item):
                raise BadTold(number)
        self.tally = tally
        self.told = told

    def __len__(self):
        return len(self.told)

    def __eq__(self, other):
        return (isinstance(other, Book) and self.tally.digits == other.tally.digits
                and self.tally.start == other.tally.start and self.tally.tables == other.tally.tables
                and self.told == other.told)

    def with_told(self, low, high, amount):
        """The book with one more told sum; raises BadTold with its number."""
        return Book(self.tally, self.told + ((low, high, amount),))

    def without(self, number):
        """The book without the told sum with this number."""
        return Book(self.tally, self.told[:number] + self.told[number + 1:])


def is_told_sum(digits, thing):
    """Whether any value is a told sum over the digits."""
    if not isinstance(thing, tuple) or len(thing) != 3:
        return False
    low, high, amount = thing
    return is_stretch(digits, low, high) and is_whole(amount)


def told_row(book, number):
    """The row of a told sum."""
    low, high, amount = book.told[number]
    return range_row(book.tally, low, high)


def told_rows(book):
    """The rows of all told sums."""
    return tuple([told_row(book, number) for number in range(len(book))])


def told_amounts(book):
    """The amounts of all told sums."""
    return tuple([amount for low, high, amount in book.told])


def are_prices(book, thing):
    """Whether any value is prices of the book."""
    if not is_row_of(thing, len(book.tally)):
        return False
    return tuple([product_of(row, thing) for row in told_rows(book)]) == told_amounts(book)


def can_be(book):
    """Whether the book has prices."""
    return judge_book(book)[0] == "can"


def judge_book(book):
    """A paper "can" or "cannot"."""
    rows, amounts = told_rows(book), told_amounts(book)
    # Prices make the amounts of what the told rows have at each state.
    columns = tuple([tuple([row[state] for row in rows]) for state in range(len(book.tally))])
    prices = numbers_for(columns, amounts)
    if prices is not None:
        return ("can", prices)
    return ("cannot", bar_for(columns, amounts))


def book_holds(book, thing):
    """Whether any value is a paper "can" or "cannot"."""
    if not isinstance(thing, tuple) or len(thing) != 2:
        return False
    if thing[0] == "can":
        return are_prices(book, thing[1])
    return thing[0] == "cannot" and are_fractions(thing[1], len(book)) and do_bar(book, thing[1])


def do_bar(book, parts):
    """Whether fractions of the told rows add up to integers, and those of the amounts do not."""
    rows = [row + (amount,) for row, amount in zip(told_rows(book), told_amounts(book))]
    total, bottom = mix_of(parts, rows, len(book.tally) + 1)
    return all([number % bottom == 0 for number in total[:-1]]) and total[-1] % bottom != 0


def suspects(book):
    """The ascending tuple of the numbers of the told sums without which the book can be, if it cannot be with them."""
    if can_be(book):
        return ()
    return tuple([number for number in range(len(book)) if can_be(book.without(number))])
