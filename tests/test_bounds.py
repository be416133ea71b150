import random
import unittest

from tallyhouse.bounds import bounds_hold, do_come_round, is_bounded, judge_bounds, worths_of, worths_round
from tallyhouse.errors import BadTicket, Unbounded
from tallyhouse.leasts import least, rank
from tallyhouse.making import added, lessened, lone, multiplied, nought, times, turned
from tallyhouse.tallies import Tally
from tests.bounded_samples import BOUNDED, GROWING, MADE_UP, SIGNED, companion
from tests.samples import (EMPTY, EVEN, LENGTH, ODD, ODDITIES, ONE, ONES, TWOS, VALUE, brute_tickets, brute_worth, led,
                           made_up_tally, spoiled)


def brute_round(tally, ahead, loop, behind, many):
    """The worths round, digit by digit."""
    row = tally.start
    for digit in ahead:
        row = led(row, tally.tables[tally.digits.index(digit)])
    found = []
    for _ in range(many):
        last = row
        for digit in behind:
            last = led(last, tally.tables[tally.digits.index(digit)])
        found.append(sum(a * b for a, b in zip(last, tally.ends)))
        for digit in loop:
            row = led(row, tally.tables[tally.digits.index(digit)])
    return found


def does_come_round(tally, ahead, loop, behind):
    found = brute_round(tally, ahead, loop, behind, 128)
    return all(found[k] == found[k + 120] for k in (4, 5, 6, 7))


def is_right(tally, thing):
    """Whether a paper is right, by the words of the document."""
    if type(thing) is not tuple or not thing or type(thing[0]) is not str:
        return False
    if thing[0] == "ever":
        if len(thing) != 4 or not all(type(part) is str and all(sign in tally.digits for sign in part) for part in thing[1:]):
            return False
        return thing[2] != "" and not does_come_round(tally, *thing[1:])
    if thing[0] != "bounded" or len(thing) != 2 or type(thing[1]) is not tuple:
        return False
    told, rows = least(tally), thing[1]
    if not all(type(row) is tuple and len(row) == len(told) and all(type(part) is int for part in row) for row in rows):
        return False
    if list(rows) != sorted(set(rows)) or told.start not in rows:
        return False
    return all(led(row, table) in rows for row in rows for table in told.tables)


class BoundsTest(unittest.TestCase):
    def test_examples(self):
        self.assertEqual(worths_of(ODD), (0, 1))
        self.assertEqual(least(ODD), Tally("01", (0, 1), (((1, 0), (0, 1)), ((0, 1), (1, 0))), (1, 0)))
        self.assertIs(bounds_hold(ODD, ("bounded", ((0, 1), (1, 0)))), True)
        self.assertIs(bounds_hold(ONES, ("ever", "", "1", "")), True)
        self.assertEqual(worths_round(ONES, "", "1", "", 4), (0, 1, 2, 3))
        self.assertEqual(judge_bounds(lessened(ONES, ONES)), ("bounded", ((),)))
        self.assertIs(do_come_round(ODD, "", "1", ""), True)

    def test_papers(self):
        kinds = set()
        for tally in BOUNDED + GROWING + MADE_UP:
            paper = judge_bounds(tally)
            kinds.add(paper[0])
            self.assertTrue(is_right(tally, paper), (repr(paper), str(tally)))
            self.assertIs(bounds_hold(tally, paper), True)
            self.assertIs(is_bounded(tally), paper[0] == "bounded")
            if paper[0] == "ever":
                self.assertLessEqual(max(map(len, paper[1:])), 40)
        self.assertEqual(kinds, {"bounded", "ever"})

    def test_known_ones(self):
        self.assertTrue(all(is_bounded(tally) for tally in BOUNDED))
        self.assertFalse(any(is_bounded(tally) for tally in GROWING))

    def test_worths_of_all_tickets(self):
        for tally in BOUNDED + MADE_UP:
            paper = judge_bounds(tally)
            if paper[0] == "ever":
                with self.assertRaises(Unbounded) as caught:
                    worths_of(tally)
                self.assertTrue(is_right(tally, caught.exception.paper))
                self.assertEqual(caught.exception.paper[0], "ever")
            elif len(paper[1]) <= 12:
                tickets = brute_tickets(tally.digits, len(paper[1]) if len(tally.digits) == 1 else 7)
                worths = {brute_worth(tally, ticket) for ticket in tickets}
                found = worths_of(tally)
                self.assertEqual(list(found), sorted(set(found)))
                self.assertTrue(worths <= set(found))
                if len(tally.digits) == 1 or len(paper[1]) <= 7:
                    self.assertEqual(worths, set(found))

    def test_rank_0_and_without_states(self):
        for tally in (EMPTY, nought("0123456789"), times(0, VALUE), lessened(VALUE, VALUE), Tally("0", (1,), (((2,),),), (0,))):
            self.assertEqual(judge_bounds(tally), ("bounded", ((),)))
            self.assertEqual(worths_of(tally), (0,))
            self.assertIs(bounds_hold(tally, ("bounded", ((),))), True)
            for thing in (("bounded", ()), ("bounded", ((), ())), ("bounded", ((0,),)), ("ever", "", "0", "")):
                self.assertIs(bounds_hold(tally, thing), False)

    def test_orders_that_divide_120(self):
        # the polynomials of the roots of order 5, 8, 10 and 12, and of 3 and 4 together
        for parts, order in (((-1, -1, -1, -1), 5), ((-1, 0, 0, 0), 8), ((-1, 1, -1, 1), 10), ((-1, 0, 1, 0), 12),
                             ((-1, -1, -2, -1), 12), ((1, 0, 0, 0), 4)):
            tally = companion(parts)
            self.assertEqual(rank(tally), 4)
            worths = brute_round(tally, "", "0", "", 2 * order)
            self.assertEqual(worths[:order], worths[order:])
            paper = judge_bounds(tally)
            self.assertEqual((paper[0], len(paper[1])), ("bounded", order))
            self.assertIs(do_come_round(tally, "", "0", ""), True)
            self.assertIs(bounds_hold(tally, ("ever", "", "0", "")), False)

    def test_roots_that_count_twice(self):
        for parts in ((-1, 0, -2, 0), (-1, 2, -3, 2), (-1, -2, -3, -2), (0, 0, -1, 2), (-1, 4, -6, 4), (0, 1, 1, -1)):
            tally = companion(parts)
            self.assertEqual(rank(tally), 4)
            paper = judge_bounds(tally)
            self.assertEqual(paper[0], "ever")
            self.assertIs(do_come_round(tally, "", "0", ""), False)

    def test_from_the_fourth_one_on(self):
        # unlike 0 at three digits alone, and nowhere from four on
        tally = lone("0", "000")
        self.assertEqual(worths_round(tally, "", "0", "", 6), (0, 0, 0, 1, 0, 0))
        self.assertIs(do_come_round(tally, "", "0", ""), True)
        self.assertEqual(judge_bounds(tally)[0], "bounded")
        # of rank 5, beyond the limit: unlike at the fourth one
        self.assertIs(do_come_round(lone("0", "0000"), "", "0", ""), False)
        self.assertIs(do_come_round(lone("0", "0" * 7), "", "0", ""), False)
        self.assertIs(do_come_round(lone("0", "0" * 8), "", "0", ""), True)
        self.assertIs(do_come_round(lone("0", "0" * 124), "", "0", ""), False)
        self.assertIs(do_come_round(lone("0", "0" * 123), "", "0", ""), True)

    def test_loops_of_several_digits_alone(self):
        # two mirrors, one beside the other: each alone comes back, both together go on
        mirrors = Tally("01", (0, 1), (((-1, 0), (0, 1)), ((-1, 0), (1, 1))), (1, 0))
        self.assertIs(do_come_round(mirrors, "", "0", "") and do_come_round(mirrors, "1", "1", "0"), True)
        self.assertEqual(len(judge_bounds(mirrors)[2]), 2)
        self.assertTrue(is_right(mirrors, judge_bounds(mirrors)))
        # three mirrors around a triangle: any two alone come back
        three = Tally("012", (0, 0, 1), (((-1, 1, 0), (0, 1, 0), (0, 0, 1)), ((1, 0, 0), (1, -1, 0), (0, 0, 1)),
                                         ((0, -1, 0), (-1, 0, 0), (1, 1, 1))), (1, 2, 0))
        for loop in ("0", "1", "2", "01", "02", "12", "10", "20", "21"):
            self.assertIs(do_come_round(three, "2", loop, "10"), True)
        self.assertEqual(len(judge_bounds(three)[2]), 3)
        self.assertIs(bounds_hold(three, judge_bounds(three)), True)

    def test_worths_round(self):
        chance = random.Random(4)
        for tally in MADE_UP[::3] + GROWING:
            for _ in range(3):
                parts = ["".join(chance.choice(tally.digits) for _ in range(chance.randrange(4))) for _ in range(3)]
                parts[1] += tally.digits[0]
                many = chance.choice((0, 1, 5, 20))
                self.assertEqual(worths_round(tally, *parts, many), tuple(brute_round(tally, *parts, many)))
                self.assertIs(do_come_round(tally, *parts), does_come_round(tally, *parts))
        self.assertEqual(worths_round(TWOS, "", "0" * 40, "0" * 40, 200)[199], 2 ** (40 * 200))
        self.assertEqual(worths_round(tally=EVEN, ahead="0", loop="0", behind="", many=3), (0, 1, 0))
        self.assertIs(do_come_round(tally=ONES, ahead="", loop="0", behind=""), True)

    def test_no_tickets(self):
        for thing in ODDITIES + ("2",):
            for parts, bad in (((thing, "", None), thing), (("", thing, "2"), thing), (("0", "1", thing), thing)):
                for told in (lambda *parts: worths_round(ONES, *parts, 3), lambda *parts: do_come_round(ONES, *parts)):
                    with self.assertRaises(BadTicket) as caught:
                        told(*parts)
                    self.assertIs(caught.exception.ticket, bad)
        for told in (lambda *parts: worths_round(ONES, *parts, 3), lambda *parts: do_come_round(ONES, *parts)):
            for parts in (("", "", "2"), ("", "", "")):
                with self.assertRaises(BadTicket) as caught:
                    told(*parts)
                self.assertEqual(caught.exception.ticket, "")

    def test_papers_by_another_hand(self):
        # rows that no ticket leads to
        self.assertIs(bounds_hold(ODD, ("bounded", ((-5, 7), (0, 1), (1, 0), (7, -5)))), True)
        self.assertIs(bounds_hold(ODD, ("bounded", ((-5, 7), (0, 1), (1, 0)))), False)
        for rows in (((1, 0), (0, 1)), ((0, 1),), ((1, 0),), (), ((0, 1), (0, 1), (1, 0)), [(0, 1), (1, 0)],
                     ([0, 1], [1, 0]), ((0, True), (1, 0)), ((0, 1), (1, 0), (2,)), ((0, 1, 0), (1, 0, 0)), None):
            self.assertIs(bounds_hold(ODD, ("bounded", rows)), False, repr(rows))
        for parts in (("", "1", ""), ("0" * 40, "10" * 20, "1" * 40), ("111", "01", "")):
            self.assertIs(bounds_hold(ONES, ("ever",) + parts), True)
        for parts in (("", "0", ""), ("", "", ""), ("", "2", ""), ("2", "1", ""), ("", "1"), ("", "1", "", ""), ("", ("1",), "")):
            self.assertIs(bounds_hold(ONES, ("ever",) + parts), False)
        self.assertIs(bounds_hold(ONES, ["ever", "", "1", ""]), False)
        self.assertIs(bounds_hold(ONES, ("Ever", "", "1", "")), False)
        self.assertIs(bounds_hold(ODD, ("ever", "", "1", "")), False)
        self.assertIs(bounds_hold(ONES, ("bounded", (least(ONES).start,))), False)

    def test_papers_with_something_otherwise(self):
        chance = random.Random(43)
        found = set()
        for tally in (BOUNDED + GROWING + MADE_UP)[::2]:
            paper = judge_bounds(tally)
            for _ in range(6):
                thing = spoiled(paper, chance)
                right = is_right(tally, thing)
                found.add(right)
                self.assertIs(bounds_hold(tally, thing), right, repr(thing))
        self.assertEqual(found, {True, False})

    def test_any_value(self):
        for tally in (ONES, ODD, ONE):
            for thing in ODDITIES + (("bounded", tuple((k, k) for k in range(900))), ("bounded", ((10 ** 39, 1),))):
                self.assertIs(bounds_hold(tally, thing), False, repr(thing)[:60])

    def test_by_name(self):
        self.assertEqual(judge_bounds(tally=ONE), ("bounded", ((1,),)))
        self.assertEqual((is_bounded(tally=ONE), worths_of(tally=ONE)), (True, (1,)))
        self.assertIs(bounds_hold(tally=ONE, thing=("bounded", ((1,),))), True)

    def test_the_greatest_sizes(self):
        self.assertEqual(len(judge_bounds(SIGNED)[1]), 192)
        self.assertIs(bounds_hold(SIGNED, judge_bounds(SIGNED)), True)
        # nine states of rank 4 and less
        nine = added(added(added(ODD, ODD), added(ODD, times(-1, ODD))), ONE)
        self.assertEqual((len(nine), judge_bounds(nine)[0], worths_of(nine)), (9, "bounded", (1, 3)))
        nine = multiplied(Tally("01", (1, 0, 0), (((0, 1, 0), (0, 0, 1), (1, 0, 0)), ((1, 0, 0), (0, 1, 0), (0, 0, 1))), (1, 0, 0)),
                          Tally("01", (1, 0, 0), (((0, 1, 0), (0, 0, 1), (1, 0, 0)), ((1, 0, 0), (0, 1, 0), (0, 0, 1))), (0, 2, 1)))
        self.assertEqual((len(nine), judge_bounds(nine)[0]), (9, "bounded"))
        for seed in range(4):
            tally = made_up_tally(seed, "012", 4, -9, 9, 0.1)
            self.assertEqual(judge_bounds(tally)[0], "ever")
            self.assertIs(bounds_hold(tally, ("ever", "012" * 13, "2" + "01" * 19, "210" * 13)), True)
        self.assertEqual(judge_bounds(added(LENGTH, turned(times(-1, LENGTH)))), ("bounded", ((),)))

    def test_more_rows_than_are_promised(self):
        # three mirrors of a cube: 384 rows, none of which is led on for ever
        found = judge_bounds(Tally("012", (1, 2, 3, 5), SIGNED.tables, (1, 0, 0, 0)))
        self.assertEqual((found[0], len(found[1])), ("bounded", 384))
