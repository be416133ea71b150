import itertools
import math
import random
import unittest
from fractions import Fraction

from tallyhouse.lattices import (bar_for, fractions_for, hermite, is_in_lattice, is_in_span, lattice_rank,
                                 numbers_for)
from tests.samples import brute_rank, brute_spanned


def determinant(rows):
    """By Leibniz: for small ones."""
    total = 0
    for order in itertools.permutations(range(len(rows))):
        sign = (-1) ** sum(order[i] > order[j] for i in range(len(order)) for j in range(i + 1, len(order)))
        total += sign * math.prod(rows[i][order[i]] for i in range(len(rows)))
    return total


def minors(rows, width, size):
    """The greatest common divisor of all determinants of so many rows and places."""
    return math.gcd(*[determinant([[row[place] for place in places] for row in some])
                      for some in itertools.combinations(rows, size)
                      for places in itertools.combinations(range(width), size)])


def made_up_rows(chance, many, width, most=9, thin=0.4):
    return tuple(tuple(0 if chance.random() < thin else chance.randint(-most, most) for _ in range(width))
                 for _ in range(many))


def combined(numbers, rows, width):
    return tuple(sum(number * row[place] for number, row in zip(numbers, rows)) for place in range(width))


def cases(many=150, most=9):
    chance = random.Random(17)
    for _ in range(many):
        width = chance.randrange(5)
        rows = made_up_rows(chance, chance.randrange(6), width, most)
        kind = chance.random()
        if kind < 0.4:
            row = combined([chance.randint(-3, 3) for _ in rows], rows, width)
        elif kind < 0.7:
            total = combined([chance.randint(-3, 3) for _ in rows], rows, width)
            common = chance.choice((2, 3, math.gcd(*total, 0) or 1))
            row = tuple(number // common if number % common == 0 else number for number in total)
        else:
            row = made_up_rows(chance, 1, width, most)[0]
        yield rows, row, width


class HermiteTest(unittest.TestCase):
    def form(self, basis, width):
        self.assertIsInstance(basis, tuple)
        leads = []
        for row in basis:
            self.assertIsInstance(row, tuple)
            self.assertEqual(len(row), width)
            self.assertTrue(all(type(number) is int for number in row))
            leads.append(next(place for place in range(width) if row[place] != 0))
        self.assertEqual(leads, sorted(set(leads)))
        for number, lead in enumerate(leads):
            self.assertGreater(basis[number][lead], 0)
            for row in basis[:number]:
                self.assertIn(row[lead], range(basis[number][lead]))
        return leads

    def test_examples(self):
        self.assertEqual(hermite(((0, 2), (2, 4)), 2), ((2, 0), (0, 2)))
        self.assertEqual(hermite(((4, 1), (6, 2)), 2), ((2, 0), (0, 1)))

    def test_by_hand(self):
        self.assertEqual(hermite(((-3,),), 1), ((3,),))
        self.assertEqual(hermite(((6, 0), (10, 0), (15, 0)), 2), ((1, 0),))
        self.assertEqual(hermite(((2, 7), (0, 3)), 2), ((2, 1), (0, 3)))
        self.assertEqual(hermite(((2, -7), (0, 3)), 2), ((2, 2), (0, 3)))
        self.assertEqual(hermite(((1, 2, 3), (2, 4, 6), (0, 0, 5)), 3), ((1, 2, 3), (0, 0, 5)))
        self.assertEqual(hermite(((0, 1), (1, 0)), 2), ((1, 0), (0, 1)))

    def test_no_rows_no_width_and_noughts(self):
        self.assertEqual(hermite((), 3), ())
        self.assertEqual(hermite((), 0), ())
        self.assertEqual(hermite(((), ()), 0), ())
        self.assertEqual(hermite(((0, 0), (0, 0)), 2), ())
        self.assertEqual(hermite(rows=((0, 0), (0, -4)), width=2), ((0, 4),))

    def test_form_and_the_same_lattice(self):
        for rows, _, width in cases():
            basis = hermite(rows, width)
            leads = self.form(basis, width)
            self.assertEqual(len(basis), brute_rank(rows))
            for row in rows:
                left = row
                for line, lead in zip(basis, leads):
                    self.assertEqual(left[lead] % line[lead], 0)
                    left = tuple(a - left[lead] // line[lead] * b for a, b in zip(left, line))
                self.assertFalse(any(left))
            # A part of a lattice with the same determinants is all of it.
            if basis:
                self.assertEqual(minors(rows, width, len(basis)), minors(basis, width, len(basis)))

    def test_just_one_for_each_lattice(self):
        chance = random.Random(3)
        for rows, _, width in cases(60):
            basis = hermite(rows, width)
            other = list(rows)
            for _ in range(10):
                if len(other) > 1:
                    one, two = chance.sample(range(len(other)), 2)
                    factor = chance.randint(-3, 3)
                    other[one] = tuple(a + factor * b for a, b in zip(other[one], other[two]))
            chance.shuffle(other)
            self.assertEqual(hermite(tuple(other), width), basis)
            self.assertEqual(hermite(tuple(other) + basis, width), basis)
            self.assertEqual(hermite(basis, width), basis)

    def test_the_greatest_sizes(self):
        chance = random.Random(11)
        rows = made_up_rows(chance, 8, 8, 999999, 0)
        basis = hermite(rows, 8)
        self.assertEqual(math.prod(basis[k][k] for k in range(8)), abs(determinant(rows)))
        for _ in range(5):
            rows = made_up_rows(chance, 8, 8, 999999, 0)
            basis = hermite(rows, 8)
            self.form(basis, 8)
            self.assertEqual(hermite(basis + rows, 8), basis)
            numbers = tuple(chance.randint(-10 ** 6, 10 ** 6) for _ in range(8))
            row = combined(numbers, rows, 8)
            self.assertEqual(numbers_for(rows, row), numbers)
            self.assertIs(is_in_lattice(rows, row), True)
            further = row[:7] + (row[7] + 1,)
            self.check_bar(rows, further)

    def check_bar(self, rows, row):
        bar = bar_for(rows, row)
        if bar is None:
            self.assertIsNotNone(numbers_for(rows, row))
            return
        fractions = [Fraction(*part) for part in bar]
        self.assertNotEqual(sum(a * b for a, b in zip(fractions, row)).denominator, 1)
        for line in rows:
            self.assertEqual(sum(a * b for a, b in zip(fractions, line)).denominator, 1)

    def test_rank(self):
        for rows, _, width in cases():
            self.assertEqual(lattice_rank(rows, width), brute_rank(rows))
        self.assertEqual(lattice_rank(rows=(), width=2), 0)
        self.assertEqual(lattice_rank(((), ()), 0), 0)


class MadeTest(unittest.TestCase):
    def good_fractions(self, parts, many):
        self.assertIsInstance(parts, tuple)
        self.assertEqual(len(parts), many)
        for part in parts:
            self.assertIsInstance(part, tuple)
            top, bottom = part
            self.assertTrue(type(top) is int and type(bottom) is int and bottom >= 1 and math.gcd(top, bottom) == 1)
        return [Fraction(*part) for part in parts]

    def test_examples(self):
        self.assertEqual(numbers_for(((2, 0), (0, 2)), (4, 2)), (2, 1))
        self.assertIsNone(numbers_for(((2, 0), (0, 2)), (1, 0)))
        bar = [Fraction(*part) for part in bar_for(((2, 0), (0, 2)), (1, 0))]
        self.assertNotEqual(bar[0].denominator, 1)
        self.assertEqual([(2 * part).denominator for part in bar], [1, 1])

    def test_always_just_one_of_both(self):
        kinds = set()
        for rows, row, width in cases(400):
            numbers, bar = numbers_for(rows, row), bar_for(rows, row)
            self.assertIs(is_in_lattice(rows, row), numbers is not None)
            self.assertEqual(numbers is None, bar is not None)
            kinds.add((numbers is None, is_in_span(rows, row)))
            if numbers is not None:
                self.assertIsInstance(numbers, tuple)
                self.assertTrue(len(numbers) == len(rows) and all(type(number) is int for number in numbers))
                self.assertEqual(combined(numbers, rows, width), row)
                continue
            fractions = self.good_fractions(bar, width)
            self.assertNotEqual(sum(a * b for a, b in zip(fractions, row)).denominator, 1)
            for line in rows:
                self.assertEqual(sum([a * b for a, b in zip(fractions, line)], Fraction(0)).denominator, 1)
        self.assertEqual(kinds, {(False, True), (True, True), (True, False)})

    def test_fractions(self):
        for rows, row, width in cases(400):
            fractions = fractions_for(rows, row)
            self.assertIs(is_in_span(rows, row), brute_spanned(rows, row))
            self.assertEqual(fractions is not None, brute_spanned(rows, row))
            if fractions is not None:
                self.assertEqual(combined(self.good_fractions(fractions, len(rows)), rows, width), row)

    def test_no_rows_no_width(self):
        self.assertEqual(numbers_for((), ()), ())
        self.assertEqual(fractions_for((), ()), ())
        self.assertIsNone(bar_for((), ()))
        self.assertEqual(numbers_for((), (0, 0)), ())
        self.assertEqual(fractions_for((), (0, 0)), ())
        self.assertIsNone(bar_for((), (0, 0)))
        self.assertIsNone(numbers_for((), (0, 1)))
        self.assertIsNone(fractions_for((), (0, 1)))
        self.assertNotEqual(Fraction(*bar_for((), (0, 1))[1]).denominator, 1)
        self.assertEqual(len(numbers_for(((), ()), ())), 2)
        self.assertEqual(len(fractions_for(((), ()), ())), 2)
        self.assertIsNone(bar_for(((), ()), ()))
        for told in (is_in_lattice, is_in_span):
            self.assertIs(told((), ()), True)
            self.assertIs(told(((), ()), ()), True)
            self.assertIs(told((), (0,)), True)
            self.assertIs(told((), (1,)), False)
            self.assertIs(told(((0, 0),), (0, 0)), True)
            self.assertIs(told(((0, 0),), (0, 2)), False)

    def test_by_hand(self):
        self.assertIs(is_in_lattice(((2,),), (3,)), False)
        self.assertIs(is_in_span(((2,),), (3,)), True)
        self.assertEqual(fractions_for(((2,),), (-3,)), ((-3, 2),))
        self.assertIs(is_in_lattice(((6,), (10,), (15,)), (1,)), True)
        self.assertEqual(numbers_for(rows=((5, 1),), row=(10, 2)), (2,))
        self.assertIsNone(bar_for(rows=((5, 1),), row=(10, 2)))
        self.assertEqual(fractions_for(rows=((5, 1),), row=(0, 0)), ((0, 1),))

    def test_the_arguments_do_not_change(self):
        rows = ((4, 1), (6, 2))
        self.assertEqual([bar_for(rows, (1, 1)), numbers_for(rows, (2, 1))], [bar_for(rows, (1, 1)), numbers_for(rows, (2, 1))])
        self.assertEqual(rows, ((4, 1), (6, 2)))
