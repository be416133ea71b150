import itertools
import math
import random
import unittest

from tallyhouse.errors import BadTicket, OtherDigits
from tallyhouse.kernels import kernel_of, multiple_by, step_by
from tallyhouse.lattices import hermite, is_in_lattice
from tallyhouse.leasts import least
from tallyhouse.making import added, ahead, lone, multiplied, nought, times, turned
from tallyhouse.relations import (combined, is_relation, judge_relations, rank_together, relations, relations_hold,
                                  telling_tickets, worth_row, worth_rows)
from tallyhouse.sames import are_same
from tallyhouse.tallies import Tally
from tests.samples import (DIGITSUM, EMPTY, LENGTH, ODDITIES, ONE, ONES, VALUE, ZEROS, brute_rank, brute_spanned,
                           brute_tickets, brute_worth, made_up_tally, spoiled)
from tests.test_lattices import determinant, minors

THREE = (ONES, ZEROS, LENGTH)


def sets_of_given():
    """Small given tallies of many kinds."""
    for seed in range(12):
        one, other = (made_up_tally(seed + k, "01", 1 + (seed + k) % 2, -2, 2) for k in (0, 50))
        yield (one,)
        yield (one, other)
        yield (one, other, added(one, times(2, other)))
        yield (times(2, one), times(3, other), one, other)
    for seed in range(4):
        yield tuple(made_up_tally(seed * 4 + k, "5", 2, -3, 3, 0.2) for k in range(3))
        yield tuple(made_up_tally(seed * 4 + k, "012", 1, -3, 3, 0.2) for k in range(4))
    yield from ((EMPTY,), (EMPTY, EMPTY), (ONES, EMPTY), (ONES, ONES, ONES), (nought("5"),), THREE, (ONES, VALUE),
                (lone("01", "10"), lone("01", "01"), ONES), (times(0, ONES), VALUE), (ONE, LENGTH, times(4, ONES)))


GIVEN = list(sets_of_given())


def tickets_for(given):
    """All tickets of fewer digits than states: their rows span those of all tickets."""
    return brute_tickets(given[0].digits, max(sum(map(len, given)) - 1, 0))


def brute_row(given, ticket):
    return tuple(brute_worth(tally, ticket) for tally in given)


def brute_telling(given):
    found, rows = [], []
    for ticket in tickets_for(given):
        row = brute_row(given, ticket)
        if brute_rank(rows + [row]) > len(rows):
            found.append(ticket)
            rows.append(row)
    return tuple(found)


def is_brute_relation(given, numbers):
    return all(sum(a * b for a, b in zip(brute_row(given, ticket), numbers)) == 0 for ticket in tickets_for(given))


def is_hermite(rows):
    leads = []
    for row in rows:
        lead = next((place for place, number in enumerate(row) if number), None)
        if lead is None or row[lead] < 1 or (leads and lead <= leads[-1]):
            return False
        if not all(0 <= one[lead] < row[lead] for one in rows[:len(leads)]):
            return False
        leads.append(lead)
    return True


def are_ordered(tickets):
    return all((len(one), one) < (len(other), other) for one, other in zip(tickets, tickets[1:]))


def is_right(given, thing):
    """Whether a paper is right, by the words of the document."""
    if type(thing) is not tuple or len(thing) != 3 or type(thing[0]) is not str or thing[0] != "relations":
        return False
    word, rows, tickets = thing
    width = len(given)
    if type(rows) is not tuple or type(tickets) is not tuple:
        return False
    if not all(type(row) is tuple and len(row) == width and all(type(part) is int for part in row) for row in rows):
        return False
    if not all(type(part) is str and all(sign in given[0].digits for sign in part) for part in tickets):
        return False
    if not are_ordered(tickets) or not is_hermite(rows):
        return False
    worths = [brute_row(given, ticket) for ticket in tickets]
    if any(sum(a * b for a, b in zip(row, line)) != 0 for row in rows for line in worths):
        return False
    # all of them are made of rows: as many as there can be, and none left between them
    if len(rows) != width - brute_rank(worths) or (rows and minors(rows, width, len(rows)) != 1):
        return False
    return all(is_brute_relation(given, row) for row in rows)


class RelationsTest(unittest.TestCase):
    def test_examples(self):
        self.assertEqual(worth_row(THREE, "011"), (2, 1, 3))
        self.assertEqual(worth_rows(THREE), ((1, 0, 1), (0, 1, 1)))
        self.assertEqual(telling_tickets(THREE), ("0", "1"))
        self.assertEqual(relations(THREE), ((1, 1, -1),))
        self.assertIs(relations_hold(THREE, ("relations", ((1, 1, -1),), ("0", "1"))), True)
        self.assertEqual(relations((ONES, nought("01"))), ((0, 1),))

    def test_worth_rows_of_tickets(self):
        for given in GIVEN:
            for ticket in brute_tickets(given[0].digits, 3) + [given[0].digits[-1] * 40]:
                self.assertEqual(worth_row(given, ticket), brute_row(given, ticket))

    def test_no_tickets(self):
        for thing in ODDITIES + ("2", "0a"):
            with self.assertRaises(BadTicket) as caught:
                worth_row(THREE, thing)
            self.assertIs(caught.exception.ticket, thing)

    def test_worth_lattice(self):
        for given in GIVEN:
            found = worth_rows(given)
            tickets = brute_tickets(given[0].digits, 20 if len(given[0].digits) == 1 else 6 if len(given[0].digits) == 2 else 4)
            self.assertEqual(found, hermite(tuple(brute_row(given, ticket) for ticket in tickets), len(given)))
            self.assertEqual(rank_together(given), len(found))

    def test_a_lattice_that_takes_many_tickets(self):
        # worths 3 and 2 to the power of a length: lattices that grow on, though their rank does not
        powers = tuple(Tally("0", (1,), (((number,),),), (1,)) for number in (2, 3, 5, 7))
        rows = [tuple(number ** k for number in (2, 3, 5, 7)) for k in range(12)]
        self.assertEqual(worth_rows(powers), hermite(tuple(rows), 4))
        self.assertEqual(telling_tickets(powers), ("", "0", "00", "000"))
        # the row (8, 0) is led on to (4, 0), (2, 0), (1, 0) by ones in a row alone
        halved = Tally("01", (8, 1, 0), (((0, 0, 0), (0, 1, 1), (0, 0, 1)), ((1, 0, 0), (0, 1, 0), (0, 0, 2))), (1, 0, 1))
        tickets = brute_tickets("01", 8)
        self.assertEqual(worth_rows((halved, ONES)), hermite(tuple(brute_row((halved, ONES), t) for t in tickets), 2))

    def test_telling_tickets(self):
        for given in GIVEN:
            found = telling_tickets(given)
            self.assertEqual(found, brute_telling(given))
            self.assertEqual(len(found), rank_together(given))

    def test_worth_nothing_but_at_one_long_ticket(self):
        given = (lone("01", "0110100"), lone("01", "011"), ONES)
        self.assertEqual(telling_tickets(given), ("1", "011", "0110100"))
        self.assertEqual(relations(given), ())
        self.assertEqual(relations((lone("01", "0110100"), times(2, lone("01", "0110100")))), ((2, -1),))
        late = (lone("0", "0" * 7), times(3, lone("0", "0" * 6)))
        self.assertEqual((telling_tickets(late), worth_rows(late)), (("0" * 6, "0" * 7), ((1, 0), (0, 3))))

    def test_relations(self):
        for given in GIVEN:
            found = relations(given)
            self.assertTrue(is_hermite(found))
            self.assertEqual(len(found), len(given) - rank_together(given))
            for numbers in itertools.product(range(-2, 3), repeat=len(given)):
                expected = is_brute_relation(given, numbers)
                self.assertIs(is_relation(given, numbers), expected)
                self.assertIs(is_in_lattice(found, numbers), expected)

    def test_equal_ones_and_noughts(self):
        self.assertEqual(relations((ONES, ONES, ONES)), ((1, 0, -1), (0, 1, -1)))
        self.assertEqual(relations((EMPTY, EMPTY)), ((1, 0), (0, 1)))
        self.assertEqual((rank_together((EMPTY,)), worth_rows((EMPTY,)), telling_tickets((EMPTY,))), (0, (), ()))
        self.assertEqual(relations((ONES, turned(ONES), least(ONES))), ((1, 0, -1), (0, 1, -1)))

    def test_any_value_is_no_relation(self):
        for thing in ODDITIES + ((1, 1), (1, 1, -1, 0), [1, 1, -1], (1, 1, "-1"), (True, 1, -1), (1, 1, -2), (0, 0, False)):
            self.assertIs(is_relation(THREE, thing), False, repr(thing))
        for thing in ((1, 1, -1), (0, 0, 0), (10 ** 39, 10 ** 39, -10 ** 39)):
            self.assertIs(is_relation(THREE, thing), True)

    def test_combined(self):
        chance = random.Random(2)
        for given in GIVEN:
            numbers = tuple(chance.choice((0, 1, -1, 10 ** 6, -10 ** 6, 7)) for _ in given)
            found = combined(given, numbers)
            self.assertEqual(found.digits, given[0].digits)
            self.assertLessEqual(len(found), sum(map(len, given)))
            for ticket in brute_tickets(found.digits, 3):
                self.assertEqual(found.worth(ticket), sum(a * b for a, b in zip(numbers, brute_row(given, ticket))))

    def test_papers(self):
        for given in GIVEN:
            paper = judge_relations(given)
            self.assertTrue(is_right(given, paper), repr(paper))
            self.assertIs(relations_hold(given, paper), True)

    def test_papers_by_another_hand(self):
        for tickets in (("0", "1"), ("1", "00"), ("", "01", "10", "011"), ("", "0", "1", "00", "1" * 700)):
            self.assertIs(relations_hold(THREE, ("relations", ((1, 1, -1),), tickets)), True)
        for tickets in ((), ("0",), ("", "0", "00"), ("1", "0"), ("0", "0", "1"), ("0", "1", "1"), ("01", "10"), ["0", "1"],
                        ("0", "2"), ("0", 1), ("0", "1", None), "01", None):
            self.assertIs(relations_hold(THREE, ("relations", ((1, 1, -1),), tickets)), False, repr(tickets))
        for rows in ((), ((-1, -1, 1),), ((2, 2, -2),), ((1, 1, -1), (0, 0, 0)), [(1, 1, -1)], ((1, 1, -1), (1, 1, -1)),
                     ([1, 1, -1],), ((True, 1, -1),), ((1, 1),), ((1, 1, -1, 0),), ((1, 0, 0),), None, "rows"):
            self.assertIs(relations_hold(THREE, ("relations", rows, ("0", "1"))), False, repr(rows))
        # right for the tickets, and not for all of them
        self.assertIs(relations_hold((ONES, VALUE), ("relations", ((1, -1),), ("1", "01"))), False)
        self.assertIs(relations_hold((ONES, VALUE), ("relations", (), ("1", "10"))), True)
        self.assertIs(relations_hold((EMPTY, EMPTY), ("relations", ((1, 0), (0, 1)), ())), True)
        self.assertIs(relations_hold((EMPTY, EMPTY), ("relations", ((1, 0), (0, 1)), ("", "1"))), True)
        self.assertIs(relations_hold((EMPTY, EMPTY), ("relations", ((1, 0),), ())), False)

    def test_papers_with_something_otherwise(self):
        chance = random.Random(29)
        found = set()
        for given in GIVEN[::2]:
            paper = judge_relations(given)
            for _ in range(12):
                thing = spoiled(paper, chance)
                right = is_right(given, thing)
                found.add(right)
                self.assertIs(relations_hold(given, thing), right, repr(thing))
        self.assertEqual(found, {True, False})

    def test_any_value(self):
        many = tuple("0" * length for length in range(900))
        for thing in ODDITIES + (("relations", ((1, 1, -1),), many), ["relations", ((1, 1, -1),), ("0", "1")],
                                 ("Relations", ((1, 1, -1),), ("0", "1")), ("relations", ((1, 1, -1),)),
                                 ("relations", ((1, 1, -1),), ("0", "1"), ())):
            self.assertIs(relations_hold(THREE, thing), False, repr(thing)[:60])

    def test_other_digits_ahead_of_all_else(self):
        for given in ((ONES, DIGITSUM), (ONES, ONES, nought("02")), (nought("0"), ONES)):
            for told, more in ((worth_row, (None,)), (worth_row, ("0",)), (worth_rows, ()), (rank_together, ()),
                               (telling_tickets, ()), (relations, ()), (is_relation, (None,)), (combined, ((1, 1, 1),)),
                               (judge_relations, ()), (relations_hold, (None,)),
                               (relations_hold, (("relations", (), ("0", "1")),))):
                with self.assertRaises(OtherDigits):
                    told(given, *more)

    def test_by_name(self):
        self.assertEqual(worth_row(given=THREE, ticket="0"), (0, 1, 1))
        self.assertEqual((worth_rows(given=(ONES,)), rank_together(given=(ONES,)), telling_tickets(given=(ONES,)),
                          relations(given=(ONES,)), judge_relations(given=(ONES,))),
                         (((1,),), 1, ("1",), (), ("relations", (), ("1",))))
        self.assertIs(is_relation(given=THREE, thing=(1, 1, -1)), True)
        self.assertTrue(are_same(combined(given=(ONES, ZEROS), numbers=(1, 1)), LENGTH))
        self.assertIs(relations_hold(given=(ONES,), thing=("relations", (), ("1",))), True)

    def test_the_greatest_sizes(self):
        for seed in range(4):
            given = tuple(made_up_tally(seed * 5 + k, "012", 3, -9, 9, 0.1) for k in range(4))
            paper = judge_relations(given)
            self.assertIs(relations_hold(given, paper), True)
            self.assertEqual(len(paper[2]), 4)
        one = made_up_tally(3, "012", 3, -9, 9, 0)
        given = (multiplied(one, turned(one)), times(10 ** 6, one), ahead(one, "2" * 40))
        self.assertEqual(sum(map(len, given)), 15)
        self.assertIs(relations_hold(given, judge_relations(given)), True)


class KernelsTest(unittest.TestCase):
    def test_kernels_multiples_and_steps(self):
        chance = random.Random(8)
        for _ in range(60):
            width = chance.randrange(5)
            rows = tuple(tuple(chance.choice((0, 0, 1, -1, 2, 6, -9)) for _ in range(width)) for _ in range(chance.randrange(4)))
            found = kernel_of(rows, width)
            self.assertTrue(is_hermite(found))
            self.assertEqual(len(found), width - brute_rank(rows))
            self.assertTrue(all(sum(a * b for a, b in zip(row, line)) == 0 for row in rows for line in found))
            self.assertTrue(not found or minors(found, width, len(found)) == 1)
            basis = hermite(rows, width)
            rank = len(basis)
            step = minors(basis, width, rank) // minors(basis, width, rank - 1) if rank else 1
            self.assertEqual(step_by(basis, width), step)
            for _ in range(5):
                row = tuple(chance.randint(-9, 9) for _ in range(width))
                multiple = multiple_by(basis, row)
                self.assertEqual(multiple is None, not brute_spanned(basis, row))
                if multiple is not None:
                    self.assertEqual(math.gcd(step, multiple), multiple)
                    for number in range(1, min(multiple, 40) + 1):
                        self.assertIs(is_in_lattice(basis, tuple(number * part for part in row)), number == multiple)

    def test_determinants_of_no_rows(self):
        self.assertEqual((determinant([]), kernel_of((), 2), step_by((), 0), multiple_by((), ())), (1, ((1, 0), (0, 1)), 1, 1))
