import random
import unittest

from tallyhouse.errors import OtherDigits
from tallyhouse.leasts import least
from tallyhouse.making import added, ahead, behind, lessened, lone, met, multiplied, nought, times, turned
from tallyhouse.pieces import Piece
from tallyhouse.sames import are_same, first_apart, judge_same, same_holds
from tallyhouse.tallies import Tally
from tests.samples import (EMPTY, ODDITIES, ONES, VALUE, brute_spanned, brute_tickets, led, made_up_tally, spoiled)


def brute_apart(one, other):
    for ticket in brute_tickets(one.digits, len(one) + len(other)):
        if one.worth(ticket) != other.worth(ticket):
            return ticket
    return None


def is_right(one, other, thing):
    """Whether a paper is right, by the words of the document."""
    if type(thing) is not tuple or len(thing) != 2 or type(thing[0]) is not str:
        return False
    if thing[0] == "apart":
        return (type(thing[1]) is str and all(sign in one.digits for sign in thing[1])
                and one.worth(thing[1]) != other.worth(thing[1]))
    if thing[0] != "same" or type(thing[1]) is not tuple:
        return False
    rows = thing[1]
    width = len(one) + len(other)
    if not all(type(row) is tuple and len(row) == width and all(type(part) is int for part in row) for row in rows):
        return False
    if not brute_spanned(rows, one.start + other.start):
        return False
    for row in rows:
        first, second = row[:len(one)], row[len(one):]
        if sum(a * b for a, b in zip(first, one.ends)) != sum(a * b for a, b in zip(second, other.ends)):
            return False
        for table, further in zip(one.tables, other.tables):
            if not brute_spanned(rows, led(first, table) + led(second, further)):
                return False
    return True


def pairs():
    """Pairs of small tallies, many of them the same."""
    for seed in range(40):
        one = made_up_tally(seed, "01", seed % 3 + 1, -2, 2)
        other = made_up_tally(seed + 500, "01", (seed + 1) % 3, -2, 2)
        yield one, other
        yield one, least(one)
        yield added(one, other), added(other, one)
        yield turned(turned(one)), one
        yield one, added(one, times(5, lone("01", "10")))
    yield EMPTY, EMPTY
    yield EMPTY, times(0, ONES)
    yield EMPTY, Tally("01", (0, 0), ONES.tables, (5, 5))
    yield ONES, VALUE


class SameTest(unittest.TestCase):
    def test_example(self):
        self.assertEqual(judge_same(ONES, VALUE), ("apart", "10"))
        self.assertEqual(first_apart(ONES, VALUE), "10")
        self.assertIs(are_same(ONES, VALUE), False)

    def test_against_all_tickets(self):
        kinds = set()
        for one, other in pairs():
            first = brute_apart(one, other)
            self.assertEqual(first_apart(one, other), first)
            self.assertIs(are_same(one, other), first is None)
            paper = judge_same(one, other)
            kinds.add(paper[0])
            self.assertTrue(is_right(one, other, paper))
            self.assertIs(same_holds(one, other, paper), True)
            if first is not None:
                self.assertEqual(paper, ("apart", first))
                self.assertLess(len(first), len(one) + len(other))
            else:
                self.assertIsNone(first_apart(other, one))
        self.assertEqual(kinds, {"same", "apart"})

    def test_known_ones(self):
        for one, other in ((met(ONES, VALUE), turned(met(turned(VALUE), turned(ONES)))),
                           (multiplied(ONES, VALUE), multiplied(VALUE, ONES)),
                           (ahead(VALUE, ""), VALUE), (behind(behind(VALUE, "1"), "0"), behind(VALUE, "01")),
                           (lessened(ONES, ONES), EMPTY), (times(2, ONES), added(ONES, ONES))):
            self.assertIs(are_same(one, other), True)
            self.assertIsNone(first_apart(one, other))

    def test_apart_late(self):
        for length in range(5):
            ticket = "1" * length
            self.assertEqual(judge_same(lone("01", ticket), nought("01")), ("apart", ticket))
        self.assertEqual(first_apart(lone("012", "0202"), lone("012", "0210")), "0202")
        self.assertEqual(first_apart(lone("0", "0" * 7), nought("0")), "0" * 7)

    def test_without_states_and_one_digit(self):
        self.assertEqual(judge_same(EMPTY, EMPTY)[0], "same")
        for rows in ((), ((),), ((), ())):
            self.assertIs(same_holds(EMPTY, EMPTY, ("same", rows)), True)
        one = Tally("7", (1,), (((2,),),), (1,))
        self.assertEqual(judge_same(one, Tally("7", (1,), (((3,),),), (1,))), ("apart", "7"))
        self.assertIs(same_holds(one, one, ("same", ((1, 1),))), True)
        self.assertIs(same_holds(one, one, ("same", ((-3, -3), (2, 2), (0, 0)))), True)
        self.assertIs(same_holds(one, one, ("same", ((1, 1), (1, 0)))), False)
        self.assertIs(same_holds(one, one, ("same", ())), False)

    def test_papers_by_another_hand(self):
        self.assertIs(same_holds(ONES, VALUE, ("apart", "10")), True)
        self.assertIs(same_holds(ONES, VALUE, ("apart", "110" * 20)), True)
        self.assertIs(same_holds(ONES, VALUE, ("apart", "01")), False)
        self.assertIs(same_holds(ONES, ONES, ("apart", "10")), False)
        rows = ((1, 0, 1, 0), (0, 1, 0, 1))
        self.assertIs(same_holds(ONES, ONES, ("same", rows)), True)
        self.assertIs(same_holds(ONES, ONES, ("same", rows + ((10 ** 39, -1, 10 ** 39, -1),))), True)
        self.assertIs(same_holds(ONES, ONES, ("same", rows[:1])), False)
        self.assertIs(same_holds(ONES, ONES, ("same", rows[1:])), False)
        self.assertIs(same_holds(ONES, ONES, ("same", rows + ((0, 1, 0, 0),))), False)
        self.assertIs(same_holds(ONES, ONES, ("same", rows + ((1, 0, 0, 0),))), False)
        # by fractions they are spanned, by integers not made
        self.assertIs(same_holds(ONES, ONES, ("same", ((2, 0, 2, 0), (0, 3, 0, 3)))), True)

    def test_a_ticket_of_two_thousand_digits(self):
        self.assertIs(same_holds(ONES, VALUE, ("apart", "10" * 1000)), True)
        self.assertIs(same_holds(VALUE, VALUE, ("apart", "10" * 1000)), False)

    def test_many_rows(self):
        rows = ((1, 0, 1, 0), (0, 1, 0, 1)) * 300
        self.assertIs(same_holds(ONES, ONES, ("same", rows)), True)

    def test_any_value(self):
        for thing in ODDITIES + (("same", ((1, 0, 1, 0), [0, 1, 0, 1])), ("same", [(1, 0, 1, 0), (0, 1, 0, 1)]),
                                 ["same", ((1, 0, 1, 0), (0, 1, 0, 1))], ("same", ((1, 0, 1, 0), (0, 1, 0, 1)), ()),
                                 ("same", ((1, 0, 1, 0), (0, 1, 0, 1), (False,) * 4)),
                                 ("same", ((True, 0, True, 0), (0, 1, 0, 1))), ("same", ((1, 0, 1), (0, 1, 0))),
                                 ("Same", ((1, 0, 1, 0), (0, 1, 0, 1))), ("apart", ""), ("apart", "2"),
                                 ("apart", ("1", "0")), ("apart", "10", None), (ONES, VALUE), ("apart", Piece(ONES, ""))):
            self.assertIs(same_holds(ONES, ONES, thing), False, repr(thing))
            self.assertIs(same_holds(ONES, VALUE, thing), False, repr(thing))

    def test_papers_with_something_otherwise(self):
        chance = random.Random(23)
        found = set()
        for one, other in list(pairs())[::3]:
            paper = judge_same(one, other)
            for _ in range(25):
                thing = spoiled(paper, chance)
                right = is_right(one, other, thing)
                found.add(right)
                self.assertIs(same_holds(one, other, thing), right, repr(thing))
        self.assertEqual(found, {True, False})

    def test_other_digits(self):
        for other in (nought("0"), nought("012"), nought("02")):
            for told in (are_same, first_apart, judge_same):
                with self.assertRaises(OtherDigits):
                    told(ONES, other)
            for thing in (None, ("apart", "0"), ("same", ())):
                with self.assertRaises(OtherDigits):
                    same_holds(ONES, other, thing)

    def test_by_name(self):
        self.assertIs(are_same(one=ONES, other=ONES), True)
        self.assertIsNone(first_apart(one=ONES, other=ONES))
        self.assertEqual(judge_same(one=ONES, other=VALUE), ("apart", "10"))
        self.assertIs(same_holds(one=ONES, other=VALUE, thing=("apart", "10")), True)

    def test_the_greatest_sizes(self):
        for seed in range(3):
            one = made_up_tally(seed, "012", 6, -9, 9, 0)
            self.assertEqual(judge_same(one, least(one))[0], "same")
            self.assertEqual(judge_same(one, times(2, one)), ("apart", brute_apart(one, times(2, one)))
                             if one.worth("") == 0 else ("apart", ""))
