import random
import unittest

from tallyhouse.errors import BadTold
from tallyhouse.making import multiplied
from tallyhouse.prices import Book, are_prices, book_holds, can_be, judge_book, suspects, told_row
from tallyhouse.tallies import Tally
from tests.book_samples import (BOOK, BOOKS, EIGHT, THREE, are_right_prices, is_right_book_paper, made_up_told, row_of_range,
                                times)
from tests.samples import DIGITSUM, EMPTY, ODDITIES, ONES, TWICE, VALUE, brute_roll, made_up_tally, spoiled


class BookTest(unittest.TestCase):
    def test_attributes(self):
        told = (("00", "01", 5), ("", "", -7), ("00", "01", 5))
        book = Book(tally=ONES, told=told)
        self.assertEqual((book.tally, book.told, len(book)), (ONES, told, 3))
        self.assertEqual((len(Book(ONES, ())), Book(ONES, ()).told), (0, ()))

    def test_told_sums_that_are_none(self):
        right = ("00", "01", 5)
        for item in ODDITIES + (("00", "01"), ("00", "01", 5, 5), ["00", "01", 5], ("01", "00", 5), ("0", "00", 5),
                                ("00", "0", 5), ("02", "03", 5), ("00", "02", 5), ("00", "01", True), ("00", "01", "5"),
                                ("00", "01", None), (None, "01", 5), ("00", None, 5), (("0",), ("0",), 1), (0, 1, 2)):
            for place in range(3):
                told = (right,) * place + (item,) + (right, None)
                with self.assertRaises(BadTold) as caught:
                    Book(ONES, told)
                self.assertEqual(caught.exception.number, place, repr(item))
        for told in (None, [right], {"0": right}, "00", 5, True, right[0], ONES, BOOK):
            with self.assertRaises(BadTold) as caught:
                Book(ONES, told)
            self.assertEqual(caught.exception.number, -1)
        self.assertEqual(len(Book(DIGITSUM, (("02", "20", 10 ** 60), ("", "", 0), ("1" * 30, "2" * 30, -10 ** 60)))), 3)

    def test_equality(self):
        self.assertTrue(BOOK == Book(ONES, (("00", "01", 5),)))
        # what the tally has as ends plays no part
        self.assertTrue(BOOK == Book(Tally("01", (1, 0), ONES.tables, (7, 8)), (("00", "01", 5),)))
        for other in (Book(ONES, (("00", "01", 6),)), Book(ONES, ()), Book(VALUE, BOOK.told),
                      Book(Tally("01", (1, 1), ONES.tables, (0, 1)), BOOK.told), Book(ONES, BOOK.told * 2),
                      Book(Tally("02", (1, 0), ONES.tables, (0, 1)), ())):
            self.assertIs(BOOK == other, False)
            self.assertIs(BOOK != other, True)
        self.assertIs(Book(ONES, ()) == Book(Tally("02", (1, 0), ONES.tables, (0, 1)), ()), False)
        for thing in ODDITIES + (BOOK.told, (ONES, BOOK.told)):
            self.assertIs(BOOK == thing, False)

    def test_one_more_and_one_less(self):
        more = BOOK.with_told(low="1", high="1", amount=9)
        self.assertEqual(more.told, (("00", "01", 5), ("1", "1", 9)))
        self.assertEqual((BOOK.told, more.tally), ((("00", "01", 5),), ONES))
        self.assertEqual(THREE.without(number=1).told, (("0", "0", 1), ("1", "1", 2)))
        self.assertEqual(THREE.without(0).told, (("00", "01", 4), ("1", "1", 2)))
        self.assertEqual(THREE.without(2).told, (("0", "0", 1), ("00", "01", 4)))
        self.assertEqual(BOOK.without(0), Book(ONES, ()))
        self.assertEqual(len(THREE), 3)

    def test_one_more_that_is_none(self):
        for values in ((None, "0", 1), ("0", ["0"], 1), ("0", "0", True), ("1", "0", 1), ("0", "00", 1), ("0", "2", 1),
                       ("0", "0", None), (ONES, {}, ()), ("0", "0", "0")):
            for book in (Book(ONES, ()), BOOK, THREE):
                with self.assertRaises(BadTold) as caught:
                    book.with_told(*values)
                self.assertEqual(caught.exception.number, len(book))

    def test_told_rows(self):
        self.assertEqual(told_row(BOOK, 0), (2, 1))
        self.assertEqual(told_row(book=THREE, number=1), (2, 1))
        for tally in (ONES, DIGITSUM, EMPTY, made_up_tally(3, "3", 3), made_up_tally(4, "258", 4, -9, 9, 0.1)):
            for length in range(3):
                tickets = brute_roll(tally.digits, length)
                pairs = [(low, high) for low in tickets for high in tickets if low <= high]
                book = Book(tally, tuple((low, high, 0) for low, high in pairs))
                for number, (low, high) in enumerate(pairs):
                    self.assertEqual(told_row(book, number), row_of_range(tally, low, high))

    def test_rolls_of_thirty_digits(self):
        low, high = "0" * 30, "1" * 30
        book = Book(ONES, ((low, high, 1), (low, "0" + high[1:], 1), ("1" + low[1:], high, 1), (high, high, 1)))
        self.assertEqual([told_row(book, number) for number in range(4)],
                         [(2 ** 30, 15 * 2 ** 30), (2 ** 29, 29 * 2 ** 28), (2 ** 29, 31 * 2 ** 28), (1, 30)])
        low, high = "01" * 15, "10" * 15
        one, other = int(low, 2), int(high, 2)
        self.assertEqual(told_row(Book(VALUE, ((low, high, 0),)), 0),
                         (other - one + 1, (one + other) * (other - one + 1) // 2))


class CanBeTest(unittest.TestCase):
    def test_examples(self):
        self.assertIs(can_be(BOOK), True)
        self.assertIs(are_prices(BOOK, (2, 1)), True)
        book = Book(ONES, (("00", "11", 6),))
        self.assertEqual(judge_book(book)[0], "cannot")
        self.assertIs(book_holds(book, ("cannot", ((1, 4),))), True)
        self.assertIs(book_holds(THREE, ("cannot", ((1, 2), (-1, 2), (1, 2)))), True)
        self.assertEqual(suspects(THREE), (0, 1, 2))

    def test_just_one_kind(self):
        found = set()
        for book in BOOKS:
            paper = judge_book(book)
            found.add(paper[0])
            self.assertTrue(is_right_book_paper(book, paper), repr((book.told, paper)))
            self.assertIs(book_holds(book, paper), True)
            self.assertIs(can_be(book), paper[0] == "can")
        self.assertEqual(found, {"can", "cannot"})

    def test_prices(self):
        chance = random.Random(3)
        found = set()
        for book in BOOKS:
            for _ in range(6):
                thing = tuple(chance.randint(-3, 3) for _ in range(len(book.tally)))
                found.add(are_prices(book, thing))
                self.assertIs(are_prices(book, thing), are_right_prices(book, thing))
            if can_be(book):
                prices = judge_book(book)[1]
                self.assertIs(are_prices(book, prices), True)
                for thing in (list(prices), prices + (0,), prices[1:] if prices else (0,), str(prices), None,
                              tuple(map(str, prices)) if prices else "", prices + prices if prices else (1,)):
                    self.assertIs(are_prices(book, thing), False, repr(thing))
        self.assertEqual(found, {True, False})
        self.assertIs(are_prices(Book(ONES, (("0", "0", 1),)), (True, 0)), False)
        self.assertIs(are_prices(Book(ONES, (("0", "0", 1),)), (1, False)), False)
        self.assertIs(are_prices(Book(EMPTY, ()), ()), True)
        self.assertIs(are_prices(Book(EMPTY, (("", "", 1),)), ()), False)
        for thing in ODDITIES:
            self.assertIs(are_prices(BOOK, thing), False)

    def test_papers_with_something_otherwise(self):
        chance = random.Random(5)
        found = set()
        for book in BOOKS:
            paper = judge_book(book)
            for _ in range(8):
                thing = spoiled(paper, chance)
                right = is_right_book_paper(book, thing)
                found.add((paper[0], right))
                self.assertIs(book_holds(book, thing), right, repr(thing))
        self.assertEqual(found, {("can", True), ("can", False), ("cannot", True), ("cannot", False)})

    def test_papers_by_another_hand(self):
        book = Book(ONES, (("00", "11", 6),))
        for parts in (((1, 4),), ((3, 4),), ((-1, 4),), ((5, 4),), ((1, 2),), ((1, 1),), ((0, 1),), ((2, 8),), ((1, -4),),
                      ((1, 8),), ((1, 4), (0, 1)), (), ((True, 4),), ([1, 4],), (1,), ("",)):
            thing = ("cannot", parts)
            self.assertIs(book_holds(book, thing), is_right_book_paper(book, thing), repr(parts))
        for parts in (((1, 2), (-1, 2), (1, 2)), ((1, 2), (1, 2), (1, 2)), ((1, 3), (-1, 3), (1, 3)), ((1, 1), (-1, 1), (1, 1)),
                      ((-5, 2), (5, 2), (1, 2)), ((1, 2), (-1, 2), (3, 2)), ((0, 1), (-1, 2), (1, 2)),
                      ((10 ** 39, 7), (-10 ** 39, 7), (10 ** 39, 7))):
            thing = ("cannot", parts)
            self.assertIs(book_holds(THREE, thing), is_right_book_paper(THREE, thing), repr(parts))
        for prices in ((0, 5), (1, 3), (-10 ** 39, 2 * 10 ** 39 + 5)):
            self.assertIs(book_holds(BOOK, ("can", prices)), True)
        self.assertIs(book_holds(BOOK, ("can", (0, 4))), False)
        self.assertIs(book_holds(EIGHT, ("can", (5, -3))), True)

    def test_any_value(self):
        great = tuple((k, k + 1) for k in range(1000))
        for thing in ODDITIES + (("can",), ("cannot",), ("can", None), ("can", ()), ("cannot", ()), ("cannot", (None,)),
                                 ("can", (0, 5), 0), ["can", (0, 5)], ("can", [0, 5]), ("cannot", great), ("can", great),
                                 ("can", "05"), (["can"], (0, 5)), ("cannot", (((1, 4),),)), (TWICE, BOOK)):
            for book in (BOOK, THREE, Book(ONES, (("00", "11", 6),))):
                self.assertIs(book_holds(book, thing), False, repr(thing)[:60])
        self.assertIs(book_holds(Book(EMPTY, ()), ("can", ())), True)
        self.assertIs(book_holds(Book(EMPTY, ()), ("cannot", ())), False)

    def test_amounts_of_sixty_figures(self):
        chance = random.Random(7)
        for seed in range(4):
            tally = made_up_tally(seed, "012", 4, -9, 9, 0.1)
            prices = tuple(chance.randint(-10 ** 12, 10 ** 12) for _ in range(4))
            length = 30 if seed else 3
            ranges = tuple(tuple(sorted("".join(chance.choice("012") for _ in range(length)) for _ in range(2))) + (0,)
                           for _ in range(11))
            book = Book(tally, ranges)
            told = tuple((low, high, times(told_row(book, number), prices))
                         for number, (low, high, amount) in enumerate(ranges))
            right = Book(tally, told)
            self.assertIs(are_prices(right, prices), True)
            self.assertEqual(judge_book(right)[0], "can")
            self.assertIs(book_holds(right, judge_book(right)), True)
            wrong = right.with_told("0" * 30, "2" * 30, 10 ** 60 - 1)
            self.assertEqual(judge_book(wrong)[0], "cannot")
            self.assertIs(book_holds(wrong, judge_book(wrong)), True)
            self.assertIn(11, suspects(wrong))

    def test_suspects(self):
        several = set()
        for book in BOOKS:
            found = suspects(book)
            if can_be(book):
                expected = ()
            else:
                expected = tuple(number for number in range(len(book))
                                 if judge_book(Book(book.tally, book.told[:number] + book.told[number + 1:]))[0] == "can")
            self.assertEqual(found, expected)
            several.add(min(len(found), 2))
        self.assertEqual(several, {0, 1, 2})

    def test_known_suspects(self):
        # the fee is told twice, unlike, and the price of a one is told well
        self.assertEqual(suspects(Book(ONES, (("", "", 2), ("0", "0", 3), ("1", "1", 5)))), (0, 1))
        self.assertEqual(suspects(Book(ONES, (("", "", 2), ("0", "0", 2), ("00", "00", 3)))), (2,))
        self.assertEqual(suspects(Book(ONES, (("", "", 2), ("0", "0", 3), ("00", "00", 4)))), ())
        self.assertEqual(suspects(Book(ONES, (("00", "11", 6),))), (0,))
        self.assertEqual(suspects(Book(ONES, (("0", "1", 3), ("0", "1", 3), ("0", "1", 4)))), (2,))
        self.assertEqual(suspects(Book(EMPTY, (("", "", 1), ("", "", 0)))), (0,))
        self.assertEqual(suspects(BOOK), ())

    def test_returned_tallies(self):
        tally = multiplied(made_up_tally(1, "012", 4, -2, 2, 0.3), made_up_tally(2, "012", 4, -2, 2, 0.3))
        chance = random.Random(1)
        for prices in (tuple(chance.randint(-9, 9) for _ in range(16)), None):
            book = Book(tally, made_up_told(chance, tally, 8, 3, prices))
            self.assertTrue(is_right_book_paper(book, judge_book(book)))
            self.assertIs(book_holds(book, judge_book(book)), True)

    def test_by_name(self):
        self.assertIs(can_be(book=BOOK), True)
        self.assertIs(book_holds(book=BOOK, thing=judge_book(book=BOOK)), True)
        self.assertIs(are_prices(book=BOOK, thing=(2, 1)), True)
        self.assertEqual(suspects(book=BOOK), ())
