import itertools
import random
import unittest

from tallyhouse.asked import asked, cost_of, is_cheapest, is_enough, is_lot, to_ask
from tallyhouse.making import multiplied
from tallyhouse.prices import Book, are_prices, can_be
from tallyhouse.told import first_open, is_told, rest_and_step
from tests.book_samples import BOOK, BOOKS, EIGHT, STILL, THREE, made_up_told, row_of, rows_of, times
from tests.samples import (BOTH, EMPTY, ODDITIES, ONES, PAIRS, brute_rank, brute_tickets, made_up_tally, spoiled)


def key(ticket):
    return len(ticket), ticket


def rank_of(rows):
    return brute_rank(rows) if rows and rows[0] else 0


def is_enough_lot(book, lot):
    """Whether told rows and rows of a lot span those of all tickets with fewer digits than the tally has states."""
    rows = rows_of(book) + [row_of(book.tally, ticket) for ticket in lot]
    every = [row_of(book.tally, ticket) for ticket in brute_tickets(book.tally.digits, max(len(book.tally) - 1, 0))]
    return rank_of(rows) == rank_of(rows + every)


def brute_cheapest(book, tickets):
    """All cheapest lots that have only some of the tickets."""
    for many in range(len(book.tally) + 1):
        lots = [lot for lot in itertools.combinations(tickets, many) if is_enough_lot(book, lot)]
        if lots:
            least = min(sum(map(len, lot)) for lot in lots)
            return [lot for lot in lots if sum(map(len, lot)) == least]
    return None


class AskedTest(unittest.TestCase):
    def test_examples(self):
        self.assertEqual(to_ask(BOOK), ("",))
        self.assertIs(is_cheapest(BOOK, ("1",)), False)
        self.assertIs(is_enough(BOOK, ("1",)), True)

    def test_first_cheapest_lot(self):
        sizes = set()
        for book in BOOKS + [Book(tally, ()) for tally in (PAIRS, made_up_tally(3, "35", 3, -2, 2, 0.3))]:
            size = len(book.tally)
            if size > 3 or (size == 3 and len(book.tally.digits) > 2):
                continue
            tickets = brute_tickets(book.tally.digits, max(size - 1, 0))
            lots = brute_cheapest(book, tickets)
            found = to_ask(book)
            sizes.add(len(found))
            self.assertEqual(found, min(lots, key=lambda lot: list(map(key, lot))), repr(book.told))
            self.assertIs(is_enough(book, found), True)
            for lot in lots:
                self.assertIs(is_cheapest(book, lot), True)
                self.assertEqual(cost_of(lot), cost_of(found))
        self.assertEqual(sizes, {0, 1, 2, 3})

    def test_enough_and_cheapest(self):
        chance = random.Random(12)
        found = set()
        for book in BOOKS:
            if len(book.tally) > 3:
                continue
            tickets = brute_tickets(book.tally.digits, 3)[:15]
            best = to_ask(book)
            for _ in range(12):
                lot = tuple(sorted(chance.sample(tickets, min(chance.randint(0, 3), len(tickets))), key=key))
                right = is_enough_lot(book, lot)
                self.assertIs(is_enough(book, lot), right)
                cheap = right and (len(lot), sum(map(len, lot))) == (len(best), sum(map(len, best)))
                self.assertIs(is_cheapest(book, lot), cheap)
                found.add((right, cheap))
        self.assertEqual(found, {(True, True), (True, False), (False, False)})

    def test_a_ticket_more_or_less(self):
        for book in BOOKS:
            best = to_ask(book)
            for place in range(len(best)):
                less = best[:place] + best[place + 1:]
                self.assertIs(is_enough(book, less), False)
                self.assertIs(is_cheapest(book, less), False)
            for ticket in brute_tickets(book.tally.digits, 2):
                if ticket not in best:
                    more = tuple(sorted(best + (ticket,), key=key))
                    self.assertIs(is_enough(book, more), True)
                    self.assertIs(is_cheapest(book, more), False)

    def test_the_empty_lot(self):
        for book in BOOKS:
            told = first_open(book) is None
            self.assertEqual(to_ask(book) == (), told)
            self.assertIs(is_enough(book, ()), told)
            self.assertIs(is_cheapest(book, ()), told)
            if not told:
                self.assertIn(first_open(book), to_ask(book))
        self.assertEqual(cost_of(()), 0)
        self.assertEqual(to_ask(THREE), ())

    def test_known_lots(self):
        self.assertEqual(to_ask(Book(ONES, ())), ("", "1"))
        self.assertEqual(to_ask(Book(PAIRS, ())), ("", "1", "11"))
        self.assertEqual(to_ask(Book(PAIRS, (("11", "11", 1),))), ("", "1"))
        self.assertEqual(to_ask(Book(PAIRS, (("", "", 1),))), ("1", "11"))
        self.assertEqual(to_ask(EIGHT), ("",))
        self.assertIs(is_cheapest(Book(ONES, ()), ("", "1")), True)
        self.assertIs(is_cheapest(Book(ONES, ()), ("0", "1")), False)
        self.assertIs(is_cheapest(Book(ONES, ()), ("", "01")), False)
        # unlike lots that are as cheap
        self.assertIs(is_cheapest(Book(BOTH, ()), ("", "0")), True)
        self.assertIs(is_cheapest(Book(BOTH, ()), ("", "1")), True)
        self.assertEqual(to_ask(Book(BOTH, ())), ("", "0"))
        self.assertEqual(to_ask(Book(STILL, ())), ())
        self.assertEqual(to_ask(Book(EMPTY, (("", "", 5),))), ())
        self.assertEqual(cost_of(("", "0", "01", "111")), 6)

    def test_lots(self):
        for thing, right in (((), True), (("",), True), (("", "0", "1", "00"), True), (("0", ""), False),
                             (("1", "0"), False), (("0", "0"), False), (["0"], False), (("2",), False), (("0", None), False),
                             ("01", False), ((("0",),), False), (("1" * 2000,), True), (("11", "0"), False), ((0,), False),
                             (tuple("0" * k for k in range(60)), True), (None, False), (("", ""), False)):
            self.assertIs(is_lot(BOOK, thing), right, repr(thing)[:60])
        for thing in ODDITIES:
            self.assertIs(is_lot(BOOK, thing), thing in ((), ("0",), ("",)), repr(thing))
        chance = random.Random(4)
        for _ in range(100):
            thing = spoiled(("", "1", "00", "01"), chance)
            right = (type(thing) is tuple and all(type(part) is str and set(part) <= set("01") for part in thing)
                     and list(map(key, thing)) == sorted(set(map(key, thing))))
            self.assertIs(is_lot(BOOK, thing), right, repr(thing))

    def test_asked(self):
        book = asked(BOOK, ("", "11"), (2, 1))
        self.assertEqual(book, Book(ONES, (("00", "01", 5), ("", "", 2), ("11", "11", 4))))
        self.assertEqual(BOOK.told, (("00", "01", 5),))
        for book in BOOKS:
            lot = to_ask(book)
            prices = tuple(range(3, 3 + len(book.tally)))
            more = asked(book, lot, prices)
            self.assertEqual(more.told[:len(book)], book.told)
            self.assertEqual(more.told[len(book):], tuple((ticket, ticket, times(row_of(book.tally, ticket), prices))
                                                          for ticket in lot))
            self.assertIsNone(first_open(more))
            self.assertEqual(to_ask(more), ())

    def test_asked_by_prices_of_the_book(self):
        prices = (2, 1)
        self.assertIs(are_prices(BOOK, prices), True)
        more = asked(book=BOOK, lot=to_ask(book=BOOK), prices=prices)
        self.assertIs(can_be(more), True)
        for ticket in ("", "0", "1", "0110"):
            self.assertEqual(rest_and_step(more, ticket), (2 + ticket.count("1"), 0))
            self.assertIs(is_told(more, ticket), True)

    def test_greater_books(self):
        chance = random.Random(6)
        tally = multiplied(made_up_tally(1, "012", 4, -2, 2, 0.2), made_up_tally(2, "012", 4, -2, 2, 0.2))
        for many in (0, 5, 12):
            book = Book(tally, made_up_told(chance, tally, many))
            lot = to_ask(book)
            self.assertIs(is_lot(book, lot), True)
            self.assertIs(is_enough(book, lot), True)
            self.assertIs(is_cheapest(book, lot), True)
            self.assertIs(is_enough(book, lot[1:]), lot == ())

    def test_by_name(self):
        self.assertIs(is_lot(book=BOOK, thing=("",)), True)
        self.assertIs(is_enough(book=BOOK, lot=("",)), True)
        self.assertIs(is_cheapest(book=BOOK, lot=("",)), True)
        self.assertEqual(cost_of(lot=("", "1")), 1)
