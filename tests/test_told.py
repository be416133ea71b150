import itertools
import random
import unittest

from tallyhouse.errors import CannotBe
from tallyhouse.making import multiplied, times as times_tally
from tallyhouse.prices import Book, can_be, told_row
from tallyhouse.told import (all_holds, first_open, is_told, judge_all, judge_worths, rest_and_step, worths_hold)
from tests.book_samples import (BOOK, BOOKS, EIGHT, STILL, THREE, brute_first_open, brute_is_told, is_right_all_paper,
                                is_right_book_paper, is_right_worths_paper, made_up_told, row_of, times)
from tests.samples import EMPTY, ODDITIES, ONES, PAIRS, VALUE, brute_tickets, made_up_tally, spoiled


class WorthsTest(unittest.TestCase):
    def test_examples(self):
        self.assertEqual(rest_and_step(BOOK, "11"), (1, 3))
        self.assertIs(worths_hold(BOOK, "11", ("worths", 1, 3, (0, 5), (-1, 7), ((2, 1),))), True)
        self.assertEqual(rest_and_step(BOOK, "0"), (0, 1))
        self.assertEqual(rest_and_step(EIGHT, "1"), (2, 0))

    def test_papers(self):
        steps = set()
        for book in BOOKS:
            if not can_be(book):
                continue
            for ticket in brute_tickets(book.tally.digits, 2)[:6]:
                paper = judge_worths(book, ticket)
                self.assertTrue(is_right_worths_paper(book, ticket, paper), repr((book.told, ticket, paper)))
                self.assertIs(worths_hold(book, ticket, paper), True)
                self.assertEqual(rest_and_step(book, ticket), paper[1:3])
                steps.add(min(paper[2], 2))
        self.assertEqual(steps, {0, 1, 2})

    def test_worths_that_small_prices_tell(self):
        for book in BOOKS:
            if len(book.tally) > 2 or not can_be(book):
                continue
            rows = [told_row(book, number) for number in range(len(book))]
            amounts = [amount for low, high, amount in book.told]
            right = [prices for prices in itertools.product(range(-25, 26), repeat=len(book.tally))
                     if [times(row, prices) for row in rows] == amounts]
            for ticket in brute_tickets(book.tally.digits, 2):
                rest, step = rest_and_step(book, ticket)
                found = {times(row_of(book.tally, ticket), prices) for prices in right}
                if step == 0:
                    self.assertLessEqual(found, {rest})
                else:
                    self.assertTrue(all((worth - rest) % step == 0 and 0 <= rest < step for worth in found))
                    near = sorted(worth for worth in found if abs(worth) <= 2 * step)
                    if len(near) > 1 and step <= 4:
                        self.assertIn(step, {other - one for one, other in zip(near, near[1:])})

    def test_books_that_cannot_be(self):
        for book in BOOKS:
            if not can_be(book):
                for call in (rest_and_step, judge_worths):
                    with self.assertRaises(CannotBe) as caught:
                        call(book, "")
                    self.assertEqual(caught.exception.paper[0], "cannot")
                    self.assertTrue(is_right_book_paper(book, caught.exception.paper))
                for thing in (("worths", 0, 0, (0,) * len(book.tally), (0,) * len(book.tally), ((0, 1),) * len(book)),
                              ("worths", 0, 1, (0,) * len(book.tally), (1,) * len(book.tally), ((0, 1),) * len(book))):
                    self.assertIs(worths_hold(book, "", thing), False)

    def test_papers_by_another_hand(self):
        right = ("worths", 1, 3, (0, 5), (-1, 7), ((2, 1),))
        for place, other in ((1, 4), (1, -2), (1, 0), (1, True), (1, None), (2, -3), (2, 6), (2, 1), (2, 0), (2, "3"),
                             (3, (5, -5)), (3, (1, 3)), (3, (-1, 7)), (3, [0, 5]), (3, (0, 4)), (4, (0, 5)), (4, (-2, 9)),
                             (4, (1, 3)), (4, (4, -3)), (5, ((5, 1),)), (5, ((-1, 1),)), (5, ((3, 1),)), (5, ((1, 2),)),
                             (5, ((4, 2),)), (5, ()), (5, ((2, 1), (0, 1))), (5, (2,)), (0, "worth"), (0, None)):
            thing = right[:place] + (other,) + right[place + 1:]
            self.assertIs(worths_hold(BOOK, "11", thing), is_right_worths_paper(BOOK, "11", thing), repr(thing))
        self.assertIs(worths_hold(BOOK, "11", ("worths", 1, 3, (-4, 13), (-5, 15), ((-1, 1),))), True)
        # twice the step, and steps that go down, are none
        self.assertIs(worths_hold(BOOK, "11", ("worths", 4, 6, (0, 5), (-2, 9), ((2, 1),))), False)
        self.assertIs(worths_hold(BOOK, "11", ("worths", 1, 3, (-1, 7), (0, 5), ((2, 1),))), False)
        self.assertIs(worths_hold(BOOK, "11", ("worths", -2, -3, (-1, 7), (0, 5), ((2, 1),))), False)
        self.assertIs(worths_hold(BOOK, "0", ("worths", 0, -1, (1, 3), (0, 5), ((0, 1),))), False)
        self.assertIs(worths_hold(BOOK, "0", ("worths", 0, 1, (0, 5), (1, 3), ((0, 1),))), True)
        # by the parts alone, or by the prices alone, another step would do
        self.assertIs(worths_hold(BOOK, "11", ("worths", 0, 1, (0, 5), (-1, 7), ((2, 1),))), False)
        self.assertIs(worths_hold(BOOK, "01", ("worths", 0, 1, (0, 5), (1, 3), ((0, 1),))), False)
        self.assertIs(worths_hold(BOOK, "01", ("worths", 0, 1, (0, 5), (-1, 7), ((0, 1),))), True)
        # told: both tell the one number, by unlike prices
        self.assertIs(worths_hold(EIGHT, "1", ("worths", 2, 0, (0, 2), (5, -3), ((1, 4),))), True)
        self.assertIs(worths_hold(EIGHT, "1", ("worths", 2, 0, (5, -3), (5, -3), ((1, 4),))), True)
        self.assertIs(worths_hold(EIGHT, "1", ("worths", 2, 0, (0, 2), (0, 2), ((1, 2),))), False)
        self.assertIs(worths_hold(EIGHT, "1", ("worths", 3, 0, (0, 2), (0, 2), ((1, 4),))), False)
        self.assertIs(worths_hold(EIGHT, "1", ("worths", 2, False, (0, 2), (0, 2), ((1, 4),))), False)

    def test_papers_with_something_otherwise(self):
        chance = random.Random(17)
        found = set()
        for book in BOOKS:
            if can_be(book):
                ticket = chance.choice(brute_tickets(book.tally.digits, 2))
                paper = judge_worths(book, ticket)
                for _ in range(10):
                    thing = spoiled(paper, chance)
                    right = is_right_worths_paper(book, ticket, thing)
                    found.add(right)
                    self.assertIs(worths_hold(book, ticket, thing), right, repr(thing))
        self.assertEqual(found, {True, False})

    def test_any_value(self):
        for thing in ODDITIES + (("worths",), ("worths", 1, 3, (0, 5), (-1, 7)), ("worths", None, None, None, None, None),
                                 ["worths", 1, 3, (0, 5), (-1, 7), ((2, 1),)], ("worths", 1, 3, (0, 5), (-1, 7), None),
                                 ("worths", 1, 3, (0, 5), (-1, 7), ((2, 1),), 0), ("worths", (), (), (), (), ()),
                                 ("worths", 1, 3, 5, 6, ((2, 1),)), ("worths", 1, 10 ** 39, (0, 5), (-1, 7), ((2, 1),))):
            self.assertIs(worths_hold(BOOK, "11", thing), False, repr(thing))
            self.assertIs(worths_hold(THREE, "11", thing), False)

    def test_without_told_sums_and_without_states(self):
        book = Book(ONES, ())
        self.assertEqual([rest_and_step(book, ticket) for ticket in ("", "1", "11")], [(0, 1)] * 3)
        self.assertEqual(rest_and_step(Book(times_tally(0, VALUE), ()), "000"), (0, 1))
        # the row of the empty ticket is twice a row of integers
        twice = Book(STILL, ())
        self.assertEqual(rest_and_step(twice, "01"), (0, 0))
        for told in ((), (("0", "1", 0),)):
            for ticket in ("", "01"):
                self.assertEqual(rest_and_step(Book(EMPTY, told), ticket), (0, 0))
                self.assertIs(worths_hold(Book(EMPTY, told), ticket, judge_worths(Book(EMPTY, told), ticket)), True)
        self.assertIs(worths_hold(Book(EMPTY, ()), "", ("worths", 0, 0, (), (), ())), True)
        self.assertIs(worths_hold(Book(EMPTY, ()), "", ("worths", 1, 0, (), (), ())), False)

    def test_the_greatest_sizes(self):
        chance = random.Random(9)
        for seed in range(4):
            tally = made_up_tally(seed, "012", 4, -9, 9, 0.2)
            prices = tuple(chance.randint(-10 ** 12, 10 ** 12) for _ in range(4))
            for many in (1, 2, 3, 12):
                ranges = [tuple(sorted("".join(chance.choice("012") for _ in range(30)) for _ in range(2)))
                          for _ in range(many)]
                book = Book(tally, tuple((low, high, 0) for low, high in ranges))
                book = Book(tally, tuple((low, high, times(told_row(book, number), prices))
                                         for number, (low, high) in enumerate(ranges)))
                for ticket in ("", "20" * 15, "1"):
                    paper = judge_worths(book, ticket)
                    self.assertIs(worths_hold(book, ticket, paper), True)
                    worth = times(row_of(tally, ticket), prices)
                    self.assertEqual(worth % paper[2] if paper[2] else worth, paper[1])
                    self.assertEqual(is_told(book, ticket), paper[2] == 0)

    def test_by_name(self):
        self.assertEqual(rest_and_step(book=BOOK, ticket="11"), (1, 3))
        self.assertIs(worths_hold(book=BOOK, ticket="11", thing=judge_worths(book=BOOK, ticket="11")), True)


class AllToldTest(unittest.TestCase):
    def test_examples(self):
        self.assertEqual(first_open(BOOK), "")
        self.assertEqual(judge_all(THREE)[0], "all")
        paper = ("all", ("", "1"), (((1, 1), (0, 1), (0, 1)), ((0, 1), (0, 1), (1, 1))),
                 ((((1, 1), (0, 1)), ((0, 1), (1, 1))), (((0, 1), (1, 1)), ((-1, 1), (2, 1)))))
        self.assertIs(all_holds(THREE, paper), True)
        self.assertEqual(first_open(EIGHT), "")

    def test_first_open(self):
        found = set()
        for book in BOOKS:
            expected = brute_first_open(book)
            found.add(expected)
            self.assertEqual(first_open(book), expected, repr(book.told))
        self.assertGreater(len(found), 4)
        self.assertIn(None, found)

    def test_is_told(self):
        found = set()
        for book in BOOKS:
            for ticket in brute_tickets(book.tally.digits, 2):
                expected = brute_is_told(book, ticket)
                found.add((can_be(book), expected))
                self.assertIs(is_told(book, ticket), expected)
        self.assertEqual(len(found), 4)

    def test_told_is_step_nought(self):
        for book in BOOKS:
            if can_be(book):
                for ticket in brute_tickets(book.tally.digits, 2)[:5]:
                    self.assertIs(is_told(book, ticket), rest_and_step(book, ticket)[1] == 0)

    def test_papers(self):
        found = set()
        for book in BOOKS:
            paper = judge_all(book)
            found.add((can_be(book), paper[0]))
            self.assertTrue(is_right_all_paper(book, paper), repr((book.told, paper)))
            self.assertIs(all_holds(book, paper), True)
            self.assertEqual(paper[1] if paper[0] == "open" else None, first_open(book))
        self.assertEqual(len(found), 4)

    def test_papers_with_something_otherwise(self):
        chance = random.Random(23)
        found = set()
        for book in BOOKS:
            paper = judge_all(book)
            for _ in range(10):
                thing = spoiled(paper, chance)
                right = is_right_all_paper(book, thing)
                found.add((paper[0], right))
                self.assertIs(all_holds(book, thing), right, repr(thing))
        self.assertEqual(found, {("all", True), ("all", False), ("open", True), ("open", False)})

    def test_more_tickets_than_it_takes(self):
        # 11 is told by twice 1 less the empty ticket; its own row may stand for itself
        one, none = (1, 1), (0, 1)
        parts = ((one, none, none), (none, none, one), ((-1, 1), none, (2, 1)))
        further = (((one, none, none), (none, one, none)), ((none, one, none), (none, none, one)),
                   ((none, none, one), (none, (-1, 1), (2, 1))))
        paper = ("all", ("", "1", "11"), parts, further)
        self.assertIs(all_holds(THREE, paper), True)
        self.assertTrue(is_right_all_paper(THREE, paper))
        for thing in (("all", ("", "1", "11"), parts[:2], further), ("all", ("", "11", "1"), parts, further),
                      ("all", ("", "1", "1"), parts, further), ("all", ("", "1", "11"), parts, further[:2]),
                      ("all", ("", "1", "11"), parts, (further[0], further[1], further[2][:1])),
                      ("all", ("", "1", "11"), parts, (further[0], further[1], further[2] + further[2][:1])),
                      ("all", ("", "1", "12"), parts, further), ("all", ["", "1", "11"], parts, further),
                      ("all", ("", "1", "11"), (parts[0], parts[0], parts[2]), further),
                      ("all", ("", "1", "11"), parts, (further[0], further[0], further[2])),
                      ("all", (), (), ()), ("all", ("1", "11"), parts[1:], further[1:])):
            self.assertIs(all_holds(THREE, thing), False, repr(thing))
            self.assertFalse(is_right_all_paper(THREE, thing))

    def test_tickets_that_do_not_span_what_comes(self):
        # the empty ticket alone: by 1 it is led on to another row
        for further in (((((1, 1),), ((1, 1),)),), ((((1, 1),), ((2, 1),)),), ((((1, 1),),),), ((),), ()):
            self.assertIs(all_holds(THREE, ("all", ("",), (((1, 1), (0, 1), (0, 1)),), further)), False)

    def test_open_by_any_ticket(self):
        for ticket, prices, further, right in (
                ("", (0, 0), (1, -2), True), ("11", (0, 0), (1, -2), True), ("11", (0, 5), (-1, 7), True),
                ("1" * 2000, (0, 5), (-1, 7), True), ("01", (0, 0), (2, -4), True), ("0", (0, 0), (0, 0), False),
                ("0", (0, 0), (1, -1), False), ("2", (0, 0), (1, -2), False), (None, (0, 0), (1, -2), False),
                ("0", [0, 0], (1, -2), False), ("0", (0, 0), (1, -2, 0), False), ("0", (0, False), (1, -2), False),
                ("0", None, (1, -2), False), ("0", (0, 0), None, False), ("0", (10 ** 39, 0), (10 ** 39 + 1, -2), True)):
            self.assertIs(all_holds(BOOK, ("open", ticket, prices, further)), right, repr((ticket, prices, further)))
            self.assertEqual(is_right_all_paper(BOOK, ("open", ticket, prices, further)), right)
        self.assertIs(all_holds(EIGHT, ("open", "0", (0, 0), (1, -1))), True)
        self.assertIs(all_holds(EIGHT, ("open", "01", (0, 0), (1, -1))), False)
        self.assertIs(all_holds(EIGHT, ("open", "11", (0, 0), (1, -1))), True)
        self.assertIs(all_holds(EIGHT, ("open", "1", (0, 0), (1, -1))), False)

    def test_any_value(self):
        great = tuple([(k, k + 1) for k in range(900)])
        for thing in ODDITIES + (("all",), ("open",), ("all", None, None, None), ("all", ("",), None, None),
                                 ("all", ("",), ((),), None), ("all", ("",), great, great), ("open", "", great, great),
                                 ("all", (None,), ((),), ((),)), ("all", ("",), (great,), (great,)), ("open", (), (), ()),
                                 ("all", ("",), (((1, 1),) * 3,), (((1, 1),), ((1, 1),))), ("open", "", 0, 1)):
            for book in (BOOK, THREE, EIGHT):
                self.assertIs(all_holds(book, thing), False, repr(thing)[:60])

    def test_without_told_sums_and_without_states(self):
        self.assertEqual((first_open(Book(ONES, ())), first_open(Book(EMPTY, ())), first_open(Book(STILL, ()))),
                         ("", None, None))
        self.assertEqual(first_open(Book(PAIRS, (("", "", 1), ("0", "0", 1)))), "1")
        for book in (Book(EMPTY, ()), Book(STILL, ()), Book(STILL, (("0", "1", 2),))):
            paper = judge_all(book)
            self.assertEqual((paper[0], paper[1]), ("all", ("",)))
            self.assertTrue(is_right_all_paper(book, paper))
        self.assertIs(all_holds(Book(EMPTY, ()), ("all", ("",), ((),), ((((0, 1),), ((0, 1),)),))), True)
        self.assertIs(all_holds(Book(EMPTY, ()), ("all", ("",), ((),), ((((5, 7),), ((0, 1),)),))), True)
        self.assertIs(all_holds(Book(EMPTY, ()), ("open", "", (), ())), False)

    def test_greater_books(self):
        chance = random.Random(2)
        tally = multiplied(made_up_tally(1, "012", 4, -2, 2, 0.2), made_up_tally(2, "012", 4, -2, 2, 0.2))
        for many in (0, 6, 12):
            book = Book(tally, made_up_told(chance, tally, many))
            paper = judge_all(book)
            self.assertIs(all_holds(book, paper), True)
            self.assertEqual(first_open(book), paper[1] if paper[0] == "open" else None)
        self.assertIs(is_told(Book(ONES, (("0" * 30, "1" * 30, 1), ("1" * 30, "1" * 30, 1))), "01" * 15), True)
        self.assertIs(is_told(Book(ONES, (("0" * 30, "1" * 30, 1),)), "01" * 15), True)
        self.assertIs(is_told(Book(ONES, (("0" * 30, "1" * 30, 1),)), "01" * 14 + "11"), False)

    def test_by_name(self):
        self.assertIs(is_told(book=EIGHT, ticket="1"), True)
        self.assertIsNone(first_open(book=THREE))
        self.assertIs(all_holds(book=THREE, thing=judge_all(book=THREE)), True)
