import random
import unittest
from fractions import Fraction

from tallyhouse.errors import OtherDigits
from tallyhouse.lattices import hermite
from tallyhouse.leasts import least
from tallyhouse.madeof import (by_fractions_hold, is_made_by_fractions, is_made_of, judge_by_fractions, judge_made_of,
                               least_multiple, made_of_holds, step_of)
from tallyhouse.making import added, lone, multiplied, nought, times, turned
from tallyhouse.relations import combined
from tallyhouse.tallies import Tally
from tests.samples import (DIGITSUM, EMPTY, LENGTH, ODDITIES, ONE, ONES, VALUE, ZEROS, brute_rank, brute_tickets,
                           brute_worth, lowest_terms, made_up_tally, spoiled)
from tests.test_lattices import minors
from tests.test_relations import GIVEN, are_ordered, brute_row, tickets_for

DOUBLE = times(2, ONES)


def cases():
    """Pairs of a goal and given tallies: made, made by fractions alone, and not made."""
    chance = random.Random(41)
    for given in GIVEN:
        size = sum(map(len, given))
        numbers = tuple(chance.randint(-3, 3) for _ in given)
        if size <= 4:
            yield combined(given, numbers), given
            yield combined(given, numbers), tuple(times(chance.choice((1, 2, 3)), tally) for tally in given)
        yield made_up_tally(size, given[0].digits, 1, -2, 2), given
        yield nought(given[0].digits), given
    yield from ((LENGTH, (ONES, ZEROS)), (ONES, (DOUBLE, LENGTH)), (ONE, (ONES, LENGTH)), (ONES, (EMPTY, EMPTY)),
                (ONES, (times(6, ONES), times(4, ONES), times(9, ONES))), (ONES, (times(6, ONES), times(4, ONES))),
                (ONES, (times(0, ONES),)), (EMPTY, (EMPTY,)), (VALUE, (ONES, LENGTH, ONE)), (ONES, (ONES, ONES)))


CASES = list(cases())


def brute_sums(tallies, pairs):
    """For each tally the sum of its worths, each times its fraction."""
    return [sum((Fraction(*fraction) * brute_worth(tally, ticket) for ticket, fraction in pairs), Fraction(0))
            for tally in tallies]


def are_right_pairs(digits, thing):
    if type(thing) is not tuple or not all(type(part) is tuple and len(part) == 2 for part in thing):
        return False
    if not all(type(ticket) is str and all(sign in digits for sign in ticket) for ticket, fraction in thing):
        return False
    if not all(lowest_terms(fraction) and fraction[0] != 0 for ticket, fraction in thing):
        return False
    return are_ordered([ticket for ticket, fraction in thing])


def is_right(goal, given, thing, whole):
    """Whether a paper is right, by the words of the document: of the sort by integers (whole), or by fractions."""
    if type(thing) is not tuple or len(thing) != 2 or type(thing[0]) is not str:
        return False
    if thing[0] == "made":
        if type(thing[1]) is not tuple or len(thing[1]) != len(given):
            return False
        if not all(type(part) is int if whole else lowest_terms(part) for part in thing[1]):
            return False
        numbers = [Fraction(part) if whole else Fraction(*part) for part in thing[1]]
        return all(sum(a * b for a, b in zip(brute_row(given, ticket), numbers)) == brute_worth(goal, ticket)
                   for ticket in tickets_for(given + (goal,)))
    if thing[0] != "barred" or not are_right_pairs(goal.digits, thing[1]):
        return False
    found = brute_sums(given + (goal,), thing[1])
    if whole:
        return all(part.denominator == 1 for part in found[:-1]) and found[-1].denominator != 1
    return not any(found[:-1]) and found[-1] != 0


class MadeOfTest(unittest.TestCase):
    def test_examples(self):
        self.assertEqual(judge_made_of(LENGTH, (ONES, ZEROS)), ("made", (1, 1)))
        self.assertEqual(judge_made_of(ONES, (DOUBLE, LENGTH))[0], "barred")
        self.assertIs(made_of_holds(ONES, (DOUBLE, LENGTH), ("barred", (("0", (-1, 2)), ("1", (1, 2))))), True)
        self.assertEqual(judge_by_fractions(ONES, (DOUBLE, LENGTH)), ("made", ((1, 2), (0, 1))))
        self.assertEqual(least_multiple(ONES, (DOUBLE, LENGTH)), 2)
        self.assertEqual((step_of((DOUBLE, LENGTH)), step_of((ONES, LENGTH))), (2, 1))
        self.assertEqual(judge_by_fractions(ONE, (ONES, LENGTH))[0], "barred")
        self.assertIs(by_fractions_hold(ONE, (ONES, LENGTH), ("barred", (("", (1, 1)),))), True)

    def test_just_one_kind(self):
        seen = set()
        for goal, given in CASES:
            paper, other = judge_made_of(goal, given), judge_by_fractions(goal, given)
            seen.add((paper[0], other[0]))
            self.assertTrue(is_right(goal, given, paper, True), (repr(paper), str(goal)))
            self.assertTrue(is_right(goal, given, other, False), (repr(other), str(goal)))
            self.assertIs(made_of_holds(goal, given, paper), True)
            self.assertIs(by_fractions_hold(goal, given, other), True)
            self.assertIs(is_made_of(goal, given), paper[0] == "made")
            self.assertIs(is_made_by_fractions(goal, given), other[0] == "made")
        self.assertEqual(seen, {("made", "made"), ("barred", "made"), ("barred", "barred")})

    def test_least_multiple(self):
        for goal, given in CASES:
            found = least_multiple(goal, given)
            self.assertEqual(found is None, not is_made_by_fractions(goal, given))
            if found is not None:
                self.assertEqual(found == 1, is_made_of(goal, given))
                for number in range(1, min(found, 12) + 1):
                    self.assertIs(is_made_of(times(number, goal), given), number == found)

    def test_known_multiples(self):
        self.assertEqual(least_multiple(ONES, (times(6, ONES), times(4, ONES))), 2)
        self.assertEqual(least_multiple(ONES, (times(6, ONES), times(4, ONES), times(9, ONES))), 1)
        self.assertEqual(least_multiple(VALUE, (times(30, VALUE), ONES)), 30)
        self.assertEqual(least_multiple(EMPTY, (ONES,)), 1)
        self.assertEqual(least_multiple(times(0, VALUE), (EMPTY,)), 1)
        self.assertIsNone(least_multiple(ONES, (EMPTY,)))
        self.assertIsNone(least_multiple(VALUE, (ONES, LENGTH)))
        self.assertEqual(least_multiple(ONES, (added(ONES, times(3, VALUE)), times(2, VALUE))), 2)
        self.assertEqual(least_multiple(times(4, ONES), (times(6, ONES),)), 3)

    def test_step(self):
        for given in GIVEN:
            tickets = brute_tickets(given[0].digits, 5)
            rows = hermite(tuple(brute_row(given, ticket) for ticket in tickets), len(given))
            rank = brute_rank(rows)
            expected = minors(rows, len(given), rank) // minors(rows, len(given), rank - 1) if rank else 1
            found = step_of(given)
            self.assertEqual(found, expected)
            # what is made by fractions of whole worths is made so many times
            for goal, other in CASES:
                if other == given and is_made_by_fractions(goal, given):
                    self.assertEqual(found % least_multiple(goal, given), 0)

    def test_known_steps(self):
        self.assertEqual(step_of((EMPTY,)), 1)
        self.assertEqual(step_of((EMPTY, times(0, ONES))), 1)
        self.assertEqual(step_of((times(6, ONES), times(4, VALUE))), 12)
        self.assertEqual(step_of((times(6, ONES), times(4, ONES))), 2)
        self.assertEqual(step_of((times(30, ONE),)), 30)
        # half of the sum of both has whole worths, too
        self.assertEqual(step_of((added(ONES, times(2, VALUE)), added(ONES, times(4, VALUE)))), 2)
        self.assertEqual(step_of((ONES, ONES)), 1)

    def test_worth_nothing_but_at_one_long_ticket(self):
        late, short = lone("01", "0110100"), lone("01", "011")
        self.assertIs(is_made_of(late, (short, ONES)), False)
        self.assertEqual(judge_by_fractions(late, (short,)), ("barred", (("0110100", (1, 1)),)))
        goal = added(times(2, ONES), times(3, short))
        self.assertEqual(judge_made_of(goal, (short, ONES)), ("made", (3, 2)))
        # the same but at one long ticket
        other = added(ONES, late)
        self.assertEqual(judge_made_of(other, (ONES,))[0], "barred")
        self.assertIs(made_of_holds(other, (ONES,), ("made", (1,))), False)
        self.assertEqual(least_multiple(added(ONES, times(2, late)), (ONES, times(6, late))), 3)
        self.assertIsNone(least_multiple(other, (ONES, short)))

    def test_a_goal_that_is_nought_or_given_several_times(self):
        self.assertEqual(judge_made_of(EMPTY, (EMPTY,))[0], "made")
        self.assertEqual(judge_made_of(nought("01"), (ONES, VALUE)), ("made", (0, 0)))
        self.assertEqual(judge_by_fractions(times(0, ONES), (ONES, VALUE)), ("made", ((0, 1), (0, 1))))
        self.assertEqual(judge_made_of(ONES, (EMPTY,))[0], "barred")
        for numbers in ((1, 0), (0, 1), (-10 ** 39, 10 ** 39 + 1)):
            self.assertIs(made_of_holds(ONES, (ONES, ONES), ("made", numbers)), True)
        self.assertIs(made_of_holds(EMPTY, (ONES, ONES), ("made", (5, -5))), True)
        self.assertIs(made_of_holds(EMPTY, (EMPTY, EMPTY), ("made", (5, -7))), True)
        self.assertIs(by_fractions_hold(ONES, (ONES, ONES), ("made", ((1, 3), (2, 3)))), True)
        self.assertIs(by_fractions_hold(ONES, (ONES, ONES), ("made", ((1, 3), (1, 3)))), False)

    def test_papers_by_another_hand(self):
        given = (DOUBLE, LENGTH)
        for pairs in ((("0", (-1, 2)), ("1", (1, 2))), (("1", (3, 2)), ("00", (1, 4))), (("1", (1, 2)), ("00", (1, 4))),
                      (("10", (1, 2)),), (("", (7, 5)), ("01", (1, 2))), (("1" * 1001, (1, 2)), ("1" * 1002, (-1, 2)))):
            self.assertIs(made_of_holds(ONES, given, ("barred", pairs)), is_right(ONES, given, ("barred", pairs), True))
        self.assertIs(made_of_holds(ONES, given, ("barred", (("10", (1, 2)),))), True)
        self.assertIs(by_fractions_hold(ONE, (ONES, LENGTH), ("barred", (("0", (2, 1)), ("00", (-1, 1))))), True)
        self.assertIs(by_fractions_hold(ONE, (ONES, LENGTH), ("barred", (("0", (2, 7)), ("00", (-1, 7))))), True)
        self.assertIs(by_fractions_hold(ONE, (ONES, LENGTH), ("barred", (("0", (1, 1)), ("00", (-1, 2))))), True)
        self.assertIs(by_fractions_hold(ONE, (ONES, LENGTH), ("barred", (("0", (1, 1)), ("00", (-1, 1))))), False)
        # a sum that is an integer other than 0 bars nothing by fractions, one that is 0 is an integer
        self.assertIs(by_fractions_hold(ONES, given, ("barred", (("0", (-1, 2)), ("1", (1, 2))))), False)
        self.assertIs(made_of_holds(ONE, (ONES, LENGTH), ("barred", (("", (1, 1)),))), False)
        self.assertIs(made_of_holds(ONE, (ONES, LENGTH), ("barred", (("", (1, 2)),))), True)

    def test_pairs_of_another_form(self):
        given = (DOUBLE, LENGTH)
        for pairs in ((("1", (1, 2)), ("0", (-1, 2))), (("0", (-1, 2)), ("0", (-1, 2)), ("1", (1, 2))),
                      (("", (0, 1)), ("0", (-1, 2)), ("1", (1, 2))), (("0", (-2, 4)), ("1", (1, 2))),
                      (("0", (1, -2)), ("1", (1, 2))), (("0", (-1, 2)), ("1", [1, 2])), (["0", (-1, 2)], ("1", (1, 2))),
                      (("0", (-1, 2)), ("1", (True, 2))), (("0", (-1, 2)), ("1", (1, 2), 0)), (("0", (-1, 2)), ("1",)),
                      (("0", (-1, 2)), ("2", (1, 2))), [("0", (-1, 2)), ("1", (1, 2))], (("0", -1), ("1", 1)), (),
                      (("0", (-1, 2)), ("1", (1, 2, 1))), (("0", (-1, 2)), (1, (1, 2))), (("0", (-1, 2)), ("1", "12"))):
            for check in (made_of_holds, by_fractions_hold):
                self.assertIs(check(ONES, given, ("barred", pairs)), False, repr(pairs))

    def test_numbers_of_another_form(self):
        for numbers in ((1,), (1, 1, 0), [1, 1], (True, 1), ("1", "1"), ((1, 1), (1, 1)), (), None, (1, 2)):
            self.assertIs(made_of_holds(LENGTH, (ONES, ZEROS), ("made", numbers)), False, repr(numbers))
        for numbers in (((1, 1),), ((1, 1), (2, 2)), (1, 1), ([1, 1], [1, 1]), ((1, 1), (True, 1)), ((-1, -1), (1, 1)),
                        ((1, 1), (1, 1), (0, 1)), ((1, 1), (0, 1)), ((1, 1), (1, 0)), None):
            self.assertIs(by_fractions_hold(LENGTH, (ONES, ZEROS), ("made", numbers)), False, repr(numbers))
        self.assertIs(by_fractions_hold(LENGTH, (ONES, ZEROS), ("made", ((1, 1), (1, 1)))), True)

    def test_papers_with_something_otherwise(self):
        chance = random.Random(31)
        found = set()
        for goal, given in CASES[::3]:
            for whole, judge, check in ((True, judge_made_of, made_of_holds), (False, judge_by_fractions, by_fractions_hold)):
                paper = judge(goal, given)
                for _ in range(8):
                    thing = spoiled(paper, chance)
                    right = is_right(goal, given, thing, whole)
                    found.add(right)
                    self.assertIs(check(goal, given, thing), right, repr(thing))
        self.assertEqual(found, {True, False})

    def test_any_value(self):
        many = tuple(("1" * length, (1, 10 ** 38 + length * 2 + 1)) for length in range(700))
        many = tuple((ticket, fraction) for ticket, fraction in many if lowest_terms(fraction))
        for thing in ODDITIES + (("barred", many), ("barred", tuple(("0" * k, (-1, 2)) for k in range(900)))):
            self.assertIs(made_of_holds(ONES, (ONES, LENGTH), thing), False, repr(thing)[:60])
            self.assertIs(by_fractions_hold(ONES, (ONES, LENGTH), thing), False, repr(thing)[:60])
        self.assertIs(made_of_holds(ONES, (LENGTH,), ("barred", tuple(("1" * k, (1, 2)) for k in range(900)))), False)
        self.assertIs(made_of_holds(ONES, (LENGTH,), ("barred", (("0" * 1999, (-1, 3)), ("1" * 1999, (1, 3))))), True)

    def test_other_digits_ahead_of_all_else(self):
        for goal, given in ((DIGITSUM, (ONES,)), (ONES, (ONES, nought("0"))), (ONES, (DIGITSUM,))):
            for told, more in ((is_made_of, ()), (judge_made_of, ()), (made_of_holds, (None,)), (least_multiple, ()),
                               (is_made_by_fractions, ()), (judge_by_fractions, ()), (by_fractions_hold, (None,)),
                               (made_of_holds, (("made", (1,)),)), (by_fractions_hold, (("barred", ()),))):
                with self.assertRaises(OtherDigits):
                    told(goal, given, *more)
        with self.assertRaises(OtherDigits):
            step_of((ONES, DIGITSUM))

    def test_by_name(self):
        self.assertIs(is_made_of(goal=ONES, given=(ONES,)), True)
        self.assertEqual(judge_made_of(goal=ONES, given=(ONES,)), ("made", (1,)))
        self.assertIs(made_of_holds(goal=ONES, given=(ONES,), thing=("made", (1,))), True)
        self.assertEqual((least_multiple(goal=ONES, given=(DOUBLE,)), step_of(given=(DOUBLE,))), (2, 2))
        self.assertIs(is_made_by_fractions(goal=ONES, given=(DOUBLE,)), True)
        self.assertEqual(judge_by_fractions(goal=ONES, given=(DOUBLE,)), ("made", ((1, 2),)))
        self.assertIs(by_fractions_hold(goal=ONES, given=(DOUBLE,), thing=("made", ((1, 2),))), True)

    def test_the_greatest_sizes(self):
        for seed in range(3):
            given = tuple(made_up_tally(seed * 5 + k, "012", 3, -9, 9, 0.1) for k in range(4))
            for goal in (made_up_tally(seed, "012", 3, -9, 9), least(added(given[0], times(7, given[1])))):
                self.assertIs(made_of_holds(goal, given, judge_made_of(goal, given)), True)
                self.assertIs(by_fractions_hold(goal, given, judge_by_fractions(goal, given)), True)
        one = made_up_tally(3, "012", 3, -9, 9, 0)
        given = (times(10 ** 6, multiplied(one, turned(one))), times(6, one))
        goal = times(4, one)
        self.assertEqual(judge_by_fractions(goal, given), ("made", ((0, 1), (2, 3))))
        self.assertEqual((least_multiple(goal, given), step_of(given)), (3, step_of(given)))
        self.assertIs(made_of_holds(goal, given, judge_made_of(goal, given)), True)

    def test_one_digit_alone(self):
        powers = tuple(Tally("7", (1,), (((number,),),), (1,)) for number in (2, 3, 5))
        self.assertEqual(judge_made_of(combined(powers, (4, -1, 2)), powers), ("made", (4, -1, 2)))
        # 2 ** n + 4 ** n is an even number from n = 1 on, and at n = 0
        even = combined((powers[0], Tally("7", (1,), (((4,),),), (1,))), (1, 1))
        self.assertEqual(step_of((even,)), 2)
        self.assertIs(is_made_of(powers[2], powers[:2]), False)
