import itertools
import random
import unittest

from tallyhouse.errors import BadTicket
from tallyhouse.lattices import hermite, numbers_for
from tallyhouse.leasts import is_least, least, marks, rank, tellers, witnesses, witnesses_hold
from tallyhouse.making import added, ahead, behind, lessened, lone, met, multiplied, nought, times, turned
from tallyhouse.sames import are_same
from tallyhouse.tallies import Tally
from tests.samples import EMPTY, ODDITIES, ONES, VALUE, brute_rank, brute_tickets, made_up_tally, spoiled
from tests.test_lattices import determinant

SMALL = ([made_up_tally(seed, "01", seed % 4, -2, 2) for seed in range(40)]
         + [made_up_tally(seed, "5", 3, -2, 2) for seed in range(10)]
         + [added(ONES, ONES), times(0, ONES), times(6, VALUE), met(ONES, Tally("01", (1,), (((1,),),) * 2, (1,))),
            lone("01", "10"), EMPTY, lessened(VALUE, VALUE), ahead(VALUE, "10"), behind(times(4, ONES), "1")])


def worths(tally, ones, others):
    return [[tally.worth(one + other) for other in others] for one in ones]


def brute_tellers(tally):
    """By the words of the document, over all tickets of fewer digits than states."""
    ones = brute_tickets(tally.digits, max(len(tally) - 1, 0))
    found = []
    for ticket in ones:
        columns = [[tally.worth(one + other) for one in ones] for other in found + [ticket]]
        if brute_rank(columns) > len(found):
            found.append(ticket)
    return tuple(found)


def in_other_states(tally, seed):
    """The same worths by states that are mixed by a table of determinant 1 or -1."""
    chance = random.Random(seed)
    start, tables, ends = list(tally.start), [[list(row) for row in table] for table in tally.tables], list(tally.ends)
    size = len(tally)
    for _ in range(6):
        if size < 2:
            break
        one, other = chance.sample(range(size), 2)
        factor = chance.randint(-2, 2)
        # the state one is put with factor times the state other: rows times E from behind, columns times its inverse
        start[other] += factor * start[one]
        ends[one] -= factor * ends[other]
        for table in tables:
            for row in table:
                row[other] += factor * row[one]
            table[one] = [a - factor * b for a, b in zip(table[one], table[other])]
    return Tally(tally.digits, tuple(start), tuple(tuple(tuple(row) for row in table) for table in tables), tuple(ends))


class RankTest(unittest.TestCase):
    def test_examples(self):
        self.assertEqual(tellers(ONES), ("", "1"))
        self.assertEqual(marks(ONES, "11"), (2, 3))

    def test_tellers_by_the_words_of_the_document(self):
        for tally in SMALL:
            found = tellers(tally)
            self.assertEqual(found, brute_tellers(tally))
            self.assertEqual(rank(tally), len(found))

    def test_rank_is_that_of_the_worths(self):
        for tally in SMALL:
            tickets = brute_tickets(tally.digits, len(tally))
            self.assertEqual(rank(tally), brute_rank(worths(tally, tickets, tickets)))

    def test_all_worths_nought(self):
        for tally in (EMPTY, times(0, ONES), lessened(VALUE, VALUE), Tally("0", (1, 0), (((1, 0), (0, 1)),), (0, 1)),
                      nought("0123456789")):
            self.assertEqual((rank(tally), tellers(tally), marks(tally, "00"), witnesses(tally)), (0, (), (), ((), ())))

    def test_marks(self):
        for tally in SMALL:
            for ticket in brute_tickets(tally.digits, 3):
                self.assertEqual(marks(tally, ticket), tuple(tally.worth(ticket + other) for other in tellers(tally)))

    def test_no_tickets(self):
        for thing in ODDITIES + ("2",):
            with self.assertRaises(BadTicket) as caught:
                marks(ONES, thing)
            self.assertIs(caught.exception.ticket, thing)

    def test_known_ranks(self):
        self.assertEqual([rank(lone("01", "1" * k)) for k in range(6)], [1, 2, 3, 4, 5, 6])
        self.assertEqual(rank(multiplied(ONES, ONES)), 3)
        self.assertEqual(rank(added(ONES, times(-1, turned(ONES)))), 0)
        self.assertEqual(rank(times(10 ** 6, VALUE)), 2)

    def test_by_name(self):
        self.assertEqual((rank(tally=ONES), tellers(tally=ONES), marks(tally=ONES, ticket="")), (2, ("", "1"), (0, 1)))
        self.assertEqual(least(tally=ONES), least(ONES))
        self.assertIs(is_least(tally=ONES), False)
        self.assertEqual(witnesses(tally=ONES), witnesses(ONES))
        self.assertIs(witnesses_hold(tally=ONES, number=0, thing=((), ())), True)


class LeastTest(unittest.TestCase):
    def test_examples(self):
        least_ones = Tally("01", (0, 1), (((1, 0), (0, 1)), ((0, -1), (1, 2))), (1, 0))
        self.assertEqual(least(ONES), least_ones)
        self.assertEqual(least(VALUE), Tally("01", (0, 1), (((2, 2), (0, 1)), ((0, -2), (1, 3))), (1, 0)))
        self.assertEqual(least(times(2, ONES)), Tally("01", (0, 1), least_ones.tables, (2, 0)))

    def test_by_the_words_of_the_document(self):
        for tally in SMALL:
            found = least(tally)
            tickets = brute_tickets(tally.digits, 7)
            size = rank(tally)
            self.assertEqual(len(found), size)
            all_marks = tuple(marks(tally, ticket) for ticket in brute_tickets(tally.digits, 5))
            basis = hermite(all_marks, size)
            self.assertEqual(found.ends, tuple(row[0] for row in basis))
            self.assertEqual(combined(found.start, basis, size), marks(tally, ""))
            for digit, table in zip(tally.digits, found.tables):
                behind_it = tuple(marks(tally, ticket + digit) for ticket in brute_tickets(tally.digits, 5))
                for row, line in zip(basis, table):
                    numbers = numbers_for(all_marks, row)
                    self.assertEqual(combined(line, basis, size), combined(numbers, behind_it, size))
            for ticket in tickets:
                self.assertEqual(found.worth(ticket), tally.worth(ticket))

    def test_the_same_have_one_least(self):
        for number, tally in enumerate(SMALL):
            for seed in range(2):
                other = in_other_states(tally, 10 * number + seed)
                self.assertEqual(least(other), least(tally))
            self.assertEqual(least(turned(turned(tally))), least(tally))
            self.assertEqual(least(added(tally, nought(tally.digits))), least(tally))
            self.assertEqual(least(lessened(added(tally, tally), tally)), least(tally))

    def test_unlike_ones_have_unlike_leasts(self):
        for one, other in itertools.combinations([tally for tally in SMALL if tally.digits == "01"][:25], 2):
            self.assertIs(least(one) == least(other), are_same(one, other))

    def test_its_own_least(self):
        for tally in SMALL:
            self.assertIs(is_least(least(tally)), True)
            self.assertEqual(least(least(tally)), least(tally))
            self.assertIs(is_least(tally), tally == least(tally))
        self.assertIs(is_least(ONES), False)
        self.assertIs(is_least(EMPTY), True)
        self.assertIs(is_least(times(0, ONES)), False)
        self.assertEqual(least(times(0, ONES)), EMPTY)

    def test_the_greatest_sizes(self):
        for seed in range(4):
            tally = made_up_tally(seed, "012", 9, -2, 2, 0.6)
            self.assertIs(are_same(tally, least(tally)), True)
            self.assertIs(is_least(least(tally)), True)
        product = multiplied(made_up_tally(1, "01", 3, -9, 9, 0), made_up_tally(2, "01", 3, -9, 9, 0))
        self.assertEqual(least(product), least(in_other_states(product, 4)))
        self.assertEqual(len(least(product)), rank(product))

    def test_a_lattice_that_needs_long_tickets(self):
        # worths 2 ** n - (-1) ** n and the like: the marks of short tickets are only a part of all
        tally = Tally("0", (0, 8, 1), (((0, 1, 0), (0, 0, 1), (3, -1, 2)),), (1, 0, 0))
        found = least(tally)
        self.assertEqual([found.worth("0" * k) for k in range(12)], [tally.worth("0" * k) for k in range(12)])
        self.assertIs(is_least(found), True)


def combined(numbers, rows, width):
    return tuple(sum(number * row[place] for number, row in zip(numbers, rows)) for place in range(width))


class WitnessesTest(unittest.TestCase):
    def right(self, tally, number, thing):
        if type(thing) is not tuple or len(thing) != 2:
            return False
        for part in thing:
            if type(part) is not tuple or len(part) != number:
                return False
            if not all(type(ticket) is str and all(sign in tally.digits for sign in ticket) for ticket in part):
                return False
        return determinant(worths(tally, thing[0], thing[1])) != 0

    def test_witnesses(self):
        for tally in SMALL:
            found = witnesses(tally)
            self.assertEqual([len(part) for part in found], [rank(tally)] * 2)
            self.assertTrue(self.right(tally, rank(tally), found))
            self.assertIs(witnesses_hold(tally, rank(tally), found), True)

    def test_fewer_tickets(self):
        self.assertIs(witnesses_hold(ONES, 1, (("1",), ("",))), True)
        self.assertIs(witnesses_hold(ONES, 1, (("0",), ("0",))), False)
        self.assertIs(witnesses_hold(ONES, 0, ((), ())), True)
        self.assertIs(witnesses_hold(EMPTY, 0, ((), ())), True)
        self.assertIs(witnesses_hold(EMPTY, 1, (("",), ("",))), False)
        self.assertIs(witnesses_hold(ONES, 2, (("1", ""), ("", "1"))), True)

    def test_above_the_rank(self):
        self.assertIs(witnesses_hold(ONES, 3, (("", "1", "11"), ("", "1", "11"))), False)
        self.assertIs(witnesses_hold(ONES, 1000, (("1",) * 1000, ("1",) * 1000)), False)

    def test_another_number(self):
        found = witnesses(ONES)
        for number in (0, 1, 3):
            self.assertIs(witnesses_hold(ONES, number, found), False)

    def test_long_tickets(self):
        self.assertIs(witnesses_hold(VALUE, 2, (("10" * 1000, "1"), ("", "1" * 2000))), True)
        self.assertIs(witnesses_hold(VALUE, 2, (("10" * 1000,) * 2, ("", "1" * 2000))), False)

    def test_any_value(self):
        for thing in ODDITIES + ([("",), ("",)], (["1"], [""]), (("1",), [""]), (("1",), ("2",)), (("1",), (None,)),
                                 (("1",), ("",), ()), ("1", ""), (("1",),)):
            self.assertIs(witnesses_hold(ONES, 1, thing), False, repr(thing))
        for thing in ODDITIES:
            self.assertIs(witnesses_hold(ONES, 0, thing), False, repr(thing))

    def test_with_something_otherwise(self):
        chance = random.Random(29)
        found = set()
        for tally in SMALL:
            for _ in range(30):
                thing = spoiled(witnesses(tally), chance)
                right = self.right(tally, rank(tally), thing)
                found.add(right)
                self.assertIs(witnesses_hold(tally, rank(tally), thing), right, repr(thing))
        self.assertEqual(found, {True, False})
