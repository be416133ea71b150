import random
import unittest

from tallyhouse.caps import (cap_holds, capped, capped_on, capped_rows, first_above, is_within, judge_cap, least_cap)
from tallyhouse.making import added, ahead, lone, multiplied, nought, times
from tallyhouse.tallies import Tally
from tests.growth_samples import COUNTS, CROSSED, KNOWN, ROW, USELESS, brute_degree, brute_useful
from tests.samples import (BOTH, EMPTY, EVEN, LENGTH, ODD, ODDITIES, ONE, ONES, TWOS, VALUE, brute_tickets,
                           brute_worth, led, made_up_count, spoiled)

CAPS = (0, 1, 2, 5, 60)
SOME = KNOWN + COUNTS[len(KNOWN)::3]


def brute_capped(useful, row, cap):
    return tuple(min(number, cap + 1) if state in useful else 0 for state, number in enumerate(row))


def brute_rows(tally, cap):
    """The capped rows of all tickets' rows, the rows being led on without a cut, as far as new ones come."""
    useful = brute_useful(tally)
    found = {brute_capped(useful, tally.start, cap)}
    last = {tally.start}
    while last:
        rows = {led(row, table) for row in last for table in tally.tables}
        last = {row for row in rows if brute_capped(useful, row, cap) not in found}
        found |= {brute_capped(useful, row, cap) for row in last}
    return found


def brute_worth_of(tally, row):
    return sum(a * b for a, b in zip(row, tally.ends))


def is_right(tally, cap, thing):
    """Whether a paper is right, by the words of the document."""
    if type(thing) is not tuple or len(thing) != 2 or type(thing[0]) is not str:
        return False
    if thing[0] == "above":
        return (type(thing[1]) is str and all(sign in tally.digits for sign in thing[1])
                and brute_worth(tally, thing[1]) > cap)
    if thing[0] != "within" or type(thing[1]) is not tuple:
        return False
    useful, rows = brute_useful(tally), thing[1]
    for row in rows:
        if type(row) is not tuple or len(row) != len(tally) or not all(type(part) is int for part in row):
            return False
        if not all(0 <= number <= cap + 1 and (number == 0 or state in useful) for state, number in enumerate(row)):
            return False
    if list(rows) != sorted(set(rows)) or brute_capped(useful, tally.start, cap) not in rows:
        return False
    if any(brute_worth_of(tally, row) > cap for row in rows):
        return False
    return all(brute_capped(useful, led(row, table), cap) in rows for row in rows for table in tally.tables)


class CapsTest(unittest.TestCase):
    def test_examples(self):
        self.assertEqual(judge_cap(ONES, 2), ("above", "111"))
        self.assertIsNone(least_cap(ONES))
        self.assertEqual(least_cap(ODD), 1)
        self.assertIs(cap_holds(ODD, 1, ("within", ((0, 1), (1, 0)))), True)

    def test_capped_rows_of_rows(self):
        self.assertEqual(capped(ONES, (3, 7), 4), (3, 5))
        self.assertEqual(capped(ONES, (0, 10 ** 39), 0), (0, 1))
        self.assertEqual(capped(USELESS, (7, 7, 7), 60), (7, 0, 0))
        self.assertEqual(capped(EMPTY, (), 3), ())
        self.assertEqual(capped_on(ONES, (1, 5), "1", 4), (1, 5))
        self.assertEqual(capped_on(ONES, (1, 4), "1", 4), (1, 5))
        self.assertEqual(capped_on(ONES, (1, 4), "0", 4), (1, 4))
        self.assertEqual(capped_on(USELESS, (1, 0, 0), "0", 4), (1, 0, 0))
        self.assertEqual(capped_on(tally=VALUE, row=(1, 9), digit="1", cap=60), (1, 19))
        self.assertEqual(capped(tally=VALUE, row=(1, 99), cap=60), (1, 61))

    def test_capped_on_is_that_of_rows(self):
        for tally in SOME:
            for cap in (0, 1, 3):
                for ticket in brute_tickets(tally.digits, 3):
                    row = capped(tally, tally.row(ticket), cap)
                    self.assertEqual(row, brute_capped(brute_useful(tally), tally.row(ticket), cap))
                    for digit in tally.digits:
                        self.assertEqual(capped_on(tally, row, digit, cap), capped(tally, tally.row(ticket + digit), cap))

    def test_capped_rows(self):
        for tally in SOME:
            for cap in (0, 1, 2):
                self.assertEqual(capped_rows(tally, cap), tuple(sorted(brute_rows(tally, cap))))
        self.assertEqual(capped_rows(tally=ONES, cap=2), ((1, 0), (1, 1), (1, 2), (1, 3)))
        self.assertEqual(capped_rows(EMPTY, 2), ((),))
        self.assertEqual(capped_rows(Tally("0", (4,), (((2,),),), (0,)), 2), ((0,),))

    def test_papers(self):
        kinds = set()
        for tally in SOME:
            tickets = brute_tickets(tally.digits, 40 if len(tally.digits) == 1 else 7)
            for cap in CAPS[:4]:
                paper = judge_cap(tally, cap)
                kinds.add((paper[0], cap))
                self.assertTrue(is_right(tally, cap, paper), (repr(paper), str(tally)))
                self.assertIs(cap_holds(tally, cap, paper), True)
                self.assertIs(is_within(tally, cap), paper[0] == "within")
                first = next((ticket for ticket in tickets if brute_worth(tally, ticket) > cap), None)
                if first is not None:
                    self.assertEqual(paper, ("above", first))
                    self.assertEqual(first_above(tally, cap), first)
                else:
                    self.assertTrue(paper[0] == "within" or len(paper[1]) > 7)
                    self.assertEqual(first_above(tally, cap), None if paper[0] == "within" else paper[1])
        self.assertEqual(kinds, {(word, cap) for word in ("within", "above") for cap in CAPS[:4]})

    def test_first_above_is_the_first_one(self):
        # a shorter one is ahead of a lesser one
        tally = added(lone("01", "000"), lone("01", "11"))
        self.assertEqual(judge_cap(tally, 0), ("above", "11"))
        self.assertEqual(judge_cap(added(lone("01", "110"), lone("01", "101")), 0), ("above", "101"))
        self.assertEqual(judge_cap(times(9, lone("012", "2101")), 8), ("above", "2101"))
        self.assertEqual(judge_cap(times(9, lone("012", "")), 8), ("above", ""))
        self.assertEqual(first_above(VALUE, 60), "111101")
        self.assertEqual(first_above(tally=LENGTH, cap=60), "0" * 61)

    def test_least_cap(self):
        for tally in SOME:
            found = least_cap(tally)
            self.assertEqual(found is None, brute_degree(tally) != 0)
            if found is not None:
                self.assertIs(is_within(tally, found), True)
                self.assertTrue(found == 0 or not is_within(tally, found - 1))
                self.assertIs(is_within(tally, found + 1), True)

    def test_caps_at_below_and_above_the_least_one(self):
        tally = times(30, ODD)
        self.assertEqual(least_cap(tally), 30)
        self.assertEqual(judge_cap(tally, 29), ("above", "1"))
        self.assertEqual(judge_cap(tally, 30), ("within", ((0, 1), (1, 0))))
        self.assertEqual(judge_cap(tally, 31), ("within", ((0, 1), (1, 0))))
        # the rows of a cap say nothing of another one
        self.assertIs(cap_holds(ahead(ODD, "1"), 0, ("within", ((0, 1), (1, 0)))), False)
        self.assertEqual([least_cap(tally) for tally in (EMPTY, ONE, EVEN, ODD, TWOS, VALUE, lone("01", "0110"))],
                         [0, 1, 1, 1, None, None, 1])
        self.assertEqual(least_cap(tally=Tally("0", (9, 9), (((0, 3), (0, 0)),), (1, 2))), 54)

    def test_what_is_not_useful_is_cut_off(self):
        # the third state doubles and leads to no end, the second one is never led to
        self.assertEqual(judge_cap(USELESS, 1), ("within", ((0, 0, 0), (1, 0, 0))))
        self.assertEqual(least_cap(USELESS), 1)
        self.assertIs(cap_holds(USELESS, 1, ("within", ((0, 0, 0), (1, 0, 0), (1, 0, 1)))), False)
        self.assertIs(cap_holds(USELESS, 1, ("within", ((0, 0, 0), (0, 1, 0), (1, 0, 0)))), False)
        for cap in (0, 7):
            tally = Tally("01", (1, 1), (((2, 0), (0, 1)), ((1, 1), (0, 1))), (0, 0))
            self.assertEqual(judge_cap(tally, cap), ("within", ((0, 0),)))

    def test_without_states(self):
        for tally in (EMPTY, nought("5")):
            self.assertEqual(judge_cap(tally, 0), ("within", ((),)))
            self.assertIs(cap_holds(tally, 0, ("within", ((),))), True)
            self.assertIs(cap_holds(tally, 0, ("within", ())), False)
            self.assertIs(cap_holds(tally, 0, ("above", "")), False)

    def test_papers_by_another_hand(self):
        # rows that no ticket leads to
        self.assertIs(cap_holds(ODD, 3, ("within", ((0, 1), (1, 0), (1, 2), (2, 1)))), True)
        self.assertIs(cap_holds(ODD, 3, ("within", ((0, 1), (0, 3), (1, 0), (3, 0)))), True)
        for rows in (((0, 1), (0, 4), (1, 0), (4, 0)), ((0, 1), (1, 0), (1, 2)), ((0, 1),), ((1, 0),), (), ((1, 0), (0, 1)),
                     ((-1, 0), (0, -1), (0, 1), (1, 0)), ((0, 1), (0, 1), (1, 0)), [(0, 1), (1, 0)], ([0, 1], [1, 0]),
                     ((0, True), (True, 0)), ((0, 1), (1, 0), (1,)), None, ((0, 1, 0), (1, 0, 0)), ((0, 1), (1, 0), (9, 9))):
            self.assertIs(cap_holds(ODD, 3, ("within", rows)), False, repr(rows))
        self.assertIs(cap_holds(ONES, 2, ("above", "1" * 2000)), True)
        self.assertIs(cap_holds(ONES, 2, ("above", "0101011")), True)
        for thing in ("0" * 2000, "11", "", "112", ("1", "1", "1"), 111, None):
            self.assertIs(cap_holds(ONES, 2, ("above", thing)), False)
        self.assertIs(cap_holds(VALUE, 60, ("above", "1" * 2000)), True)

    def test_papers_with_something_otherwise(self):
        chance = random.Random(47)
        found = set()
        for tally in SOME:
            for cap in (0, 1, 3):
                paper = judge_cap(tally, cap)
                for _ in range(5):
                    thing = spoiled(paper, chance)
                    right = is_right(tally, cap, thing)
                    found.add((right, paper[0]))
                    self.assertIs(cap_holds(tally, cap, thing), right, (repr(thing), str(tally)))
        self.assertEqual(len(found), 4)

    def test_any_value(self):
        for tally in (ONES, ODD, ONE, VALUE):
            for thing in ODDITIES + (("within", tuple((k, k) for k in range(900))), ("within", ((10 ** 39, 1),)), ["above", "111"]):
                self.assertIs(cap_holds(tally, 2, thing), False, repr(thing)[:60])
        self.assertIs(cap_holds(tally=ONES, cap=2, thing=("above", "111")), True)
        self.assertIs(is_within(tally=ONES, cap=2), False)
        self.assertEqual(judge_cap(tally=ONES, cap=0), ("above", "1"))

    def test_the_greatest_sizes(self):
        self.assertEqual(judge_cap(ROW, 60)[0], "above")
        self.assertEqual(judge_cap(CROSSED, 60), ("above", "0" * 9 + "1" * 7))
        self.assertEqual(judge_cap(BOTH, 60)[0], "above")
        counted = multiplied(times(60, ODD), ODD)
        self.assertEqual((least_cap(counted), judge_cap(counted, 60)[0], judge_cap(counted, 59)), (60, "within", ("above", "1")))
        for seed in range(6):
            tally = made_up_count(seed, "012", 9, 1, 0.9)
            for cap in (0, 3):
                self.assertIs(cap_holds(tally, cap, judge_cap(tally, cap)), True)
