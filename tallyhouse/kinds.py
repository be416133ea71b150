"""What the parts of findings and commands stand for, None where a value stands for nothing of that kind."""

from tallyhouse.errors import BadText, BadTold
from tallyhouse.prices import Book
from tallyhouse.rewriters import Rewriter
from tallyhouse.tallies import Tally


def tally_of(thing):
    """The tally of any value that is a text of one, otherwise None."""
    try:
        return Tally.read(thing)
    except BadText:
        return None


def count_of(thing):
    """The count of any value that is a text of one, otherwise None."""
    tally = tally_of(thing)
    return tally if tally is not None and tally.is_count else None


def rewriter_of(thing):
    """The rewriter of any value that is a text of one, otherwise None."""
    try:
        return Rewriter.read(thing)
    except BadText:
        return None


def given_of(thing):
    """The tallies of any value that is a tuple of one or more texts of tallies with the same digits, otherwise None."""
    if not isinstance(thing, tuple) or len(thing) == 0:
        return None
    given = [tally_of(part) for part in thing]
    if any([tally is None for tally in given]) or any([tally.digits != given[0].digits for tally in given]):
        return None
    return tuple(given)


def book_of(thing, told):
    """The book of any two values that are a text of a tally and told sums, otherwise None."""
    tally = tally_of(thing)
    if tally is None:
        return None
    try:
        return Book(tally, told)
    except BadTold:
        return None


def sort_of(thing):
    """With which word any value begins, and how many parts it has, if it is a tuple that begins with a word."""
    if not isinstance(thing, tuple) or len(thing) == 0 or not isinstance(thing[0], str):
        return ("", 0)
    return (thing[0], len(thing))
