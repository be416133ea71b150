"""Findings of parts 8 and 9: books, what they tell, lots, suspects, digits that count alike."""

from tallyhouse.asked import is_cheapest, is_lot
from tallyhouse.kinds import book_of, sort_of, tally_of
from tallyhouse.prices import book_holds, suspects
from tallyhouse.rows import is_row
from tallyhouse.tickets import is_ticket
from tallyhouse.told import all_holds, worths_hold
from tallyhouse.wider import length_apart_holds, order_apart_holds, symmetries


def is_book_paper(thing):
    """Whether ("book", T, told, paper) holds."""
    word, text, told, paper = thing
    book = book_of(text, told)
    return book is not None and book_holds(book, paper)


def are_worths(thing):
    """Whether ("worths", T, told, ticket, paper) holds."""
    word, text, told, ticket, paper = thing
    book = book_of(text, told)
    return book is not None and is_ticket(book.tally.digits, ticket) and worths_hold(book, ticket, paper)


def is_all_told(thing):
    """Whether ("all told", T, told, paper) holds."""
    word, text, told, paper = thing
    book = book_of(text, told)
    return book is not None and all_holds(book, paper)


def is_cheapest_lot(thing):
    """Whether ("lot", T, told, lot) holds."""
    word, text, told, lot = thing
    book = book_of(text, told)
    return book is not None and is_lot(book, lot) and is_cheapest(book, lot)


def are_suspects(thing):
    """Whether ("suspects", T, told, numbers) holds."""
    word, text, told, numbers = thing
    book = book_of(text, told)
    return book is not None and is_row(numbers) and suspects(book) == numbers


def is_alike_paper(thing):
    """Whether ("alike", T, word, paper) holds."""
    word, text, sort, paper = thing
    tally = tally_of(text)
    if tally is None:
        return False
    if sort == "order":
        return order_apart_holds(tally, paper)
    return sort == "length" and length_apart_holds(tally, paper)


def are_symmetries(thing):
    """Whether ("symmetries", T, orders) holds."""
    word, text, orders = thing
    tally = tally_of(text)
    return tally is not None and symmetries(tally) == orders


# By the word of a finding and how many parts it has, the word counted.
JUDGES = {
    ("book", 4): is_book_paper, ("worths", 5): are_worths, ("all told", 4): is_all_told, ("lot", 4): is_cheapest_lot,
    ("suspects", 4): are_suspects, ("alike", 4): is_alike_paper, ("symmetries", 3): are_symmetries,
}


def book_finding_holds(thing):
    """Whether any value is a finding of parts 8 and 9 that holds."""
    sort = sort_of(thing)
    if sort not in JUDGES:
        return False
    judge = JUDGES[sort]
    return judge(thing)
