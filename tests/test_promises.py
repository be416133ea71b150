import random
import unittest

from tallyhouse.errors import OtherDigits
from tallyhouse.growthpapers import growth_holds
from tallyhouse.madeof import made_of_holds
from tallyhouse.making import added, lone, multiplied, nought, times
from tallyhouse.powers import degree
from tallyhouse.promises import fault_of, is_promise
from tallyhouse.tallies import Tally
from tests.samples import (BOTH, DIGITSUM, EMPTY, EVEN, LENGTH, ODD, ODDITIES, ONE, ONES, PAIRS, TWOS, VALUE, ZEROS,
                           brute_rank, brute_roll, brute_tickets, brute_worth, made_up_count, made_up_tally, spoiled)

TALLIES = [ONES, VALUE, ZEROS, LENGTH, ONE, ODD, PAIRS, BOTH, EMPTY, TWOS, EVEN, DIGITSUM, lone("01", "011"), nought("0")]
TALLIES += [made_up_tally(seed, digits, size, -2, 2, 0.5) for seed in range(2) for digits in ("0", "01", "012")
            for size in (1, 2, 3)]
TALLIES += [made_up_count(seed, digits, size, 1, 0.7) for seed in range(4) for digits in ("0", "01") for size in (2, 3)]


def is_right_promise(thing):
    """Whether a value is a promise by its form, by the words of the document."""
    if type(thing) is not tuple or len(thing) != 2 or type(thing[0]) is not str:
        return False
    word, told = thing
    if word in ("rank", "cap", "degree", "sums"):
        return type(told) is int and told >= 0
    if word != "made of" or type(told) is not tuple or len(told) == 0:
        return False
    if not all(type(name) is str and 1 <= len(name) <= 8 and all("a" <= sign <= "z" for sign in name) for name in told):
        return False
    return list(told) == sorted(set(told))


def brute_sum(tally, ticket, more):
    return sum(brute_worth(tally, ticket + rest) for rest in brute_roll(tally.digits, more))


class FormTest(unittest.TestCase):
    def test_promises(self):
        for word in ("rank", "cap", "degree", "sums"):
            for number in (0, 1, 6, 30, 10 ** 39):
                self.assertIs(is_promise((word, number)), True)
            for thing in ((word, -1), (word, True), (word, False), (word, None), (word, "1"), (word, (1,)), (word,),
                          (word, 1, 1), [word, 1], (word.upper(), 1), (word + " ", 1), (word, -10 ** 39), (word, ("a",))):
                self.assertIs(is_promise(thing), False, repr(thing))
        for names, right in ((("a",), True), (("a", "b"), True), (("abcdefgh", "zzzzzzzz"), True), (("a", "aa", "b"), True),
                             ((), False), (("b", "a"), False), (("a", "a"), False), (["a"], False), ("a", False),
                             (("abcdefghi",), False), (("",), False), (("A",), False), (("a1",), False), (("a b",), False),
                             (("a", None), False), ((0,), False), ((("a",),), False), (None, False), (0, False),
                             (("a\n",), False), (tuple("abcdefghijklmnopqrstuvwxyz"), True)):
            self.assertIs(is_promise(("made of", names)), right, repr(names))
            self.assertIs(is_promise(("made", names)), False)
        for thing in ODDITIES:
            self.assertIs(is_promise(thing), False, repr(thing))

    def test_promises_with_something_otherwise(self):
        chance = random.Random(14)
        found = set()
        for promise in (("rank", 2), ("cap", 0), ("degree", 1), ("sums", 3), ("made of", ("all", "ones"))) * 40:
            thing = spoiled(promise, chance)
            found.add(is_right_promise(thing))
            self.assertIs(is_promise(thing=thing), is_right_promise(thing), repr(thing))
        self.assertEqual(found, {True, False})


class FaultTest(unittest.TestCase):
    def test_rank(self):
        for tally in TALLIES:
            tickets = brute_tickets(tally.digits, max(len(tally) - 1, 0))
            found = brute_rank([[brute_worth(tally, u + v) for v in tickets] for u in tickets])
            for most in (0, 1, 2, 3, 10 ** 39):
                self.assertEqual(fault_of(tally, ("rank", most), None, ()), None if found <= most else ("rank", found))

    def test_cap(self):
        for tally in TALLIES:
            if not tally.is_count:
                continue
            for cap in (0, 1, 2, 3):
                expected = [("above", ticket) for ticket in brute_tickets(tally.digits, 6)
                            if brute_worth(tally, ticket) > cap]
                self.assertEqual(fault_of(tally, ("cap", cap), None, ()), expected[0] if expected else None)
        self.assertEqual(fault_of(ONES, ("cap", 9), None, ()), ("above", "1" * 10))
        self.assertIsNone(fault_of(ODD, ("cap", 10 ** 39), None, ()))

    def test_degree(self):
        found = set()
        for tally in TALLIES:
            if not tally.is_count:
                continue
            grows = degree(tally)
            for most in (0, 1, 2, 10 ** 39):
                fault = fault_of(tally, ("degree", most), None, ())
                kept = grows is not None and grows <= most
                found.add((grows is None, kept))
                self.assertEqual(fault is None, kept)
                if fault is not None:
                    self.assertIs(growth_holds(tally, fault), True)
                    self.assertEqual(fault[0], "doubles" if grows is None else "power")
        self.assertEqual(found, {(True, False), (False, True), (False, False)})
        self.assertIsNone(fault_of(multiplied(ONES, ONES), ("degree", 2), None, ()))
        self.assertEqual(len(fault_of(multiplied(ONES, ONES), ("degree", 1), None, ())[2]), 2)

    def test_a_number_below_nought(self):
        tables = ONES.tables
        below = (((1, 0), (0, 1)), ((1, -1), (0, 1)))
        for start, middle, ends, place in (((-1, 0), tables, (0, 1), "start"), ((1, 0), below, (0, 1), "tables"),
                                           ((1, 0), tables, (0, -1), "ends"), ((-1, 0), below, (0, -1), "start"),
                                           ((1, 0), below, (-1, 0), "tables"), ((0, -1), tables, (-1, 0), "start")):
            tally = Tally("01", start, middle, ends)
            for word in ("cap", "degree"):
                for number in (0, 9):
                    self.assertEqual(fault_of(tally, (word, number), None, ()), ("below", place))
            self.assertIsNone(fault_of(tally, ("rank", 2), None, ()))
            self.assertIsNone(fault_of(tally, ("sums", 2), tally, ()))
            self.assertIsNone(fault_of(tally, ("made of", ("a",)), None, (tally,)))
        # worths from 0 on are not enough: it is no count
        self.assertEqual(fault_of(multiplied(Tally("0", (-1,), (((1,),),), (1,)), Tally("0", (-1,), (((1,),),), (-1,))),
                                  ("cap", 9), None, ()), ("below", "ends"))

    def test_sums(self):
        found = set()
        pairs = [(one, other) for one in TALLIES for other in TALLIES[:12] + TALLIES[-6:] if one.digits == other.digits]
        for one, other in pairs:
            tickets = brute_tickets(one.digits, min(max(len(one) + len(other) - 1, 0), 4))
            for more in (0, 1, 2):
                expected = [("apart", ticket) for ticket in tickets
                            if brute_sum(one, ticket, more) != brute_sum(other, ticket, more)]
                found.add((more, bool(expected)))
                self.assertEqual(fault_of(one, ("sums", more), other, ()), expected[0] if expected else None)
        self.assertEqual(len(found), 6)
        self.assertEqual(fault_of(LENGTH, ("sums", 1), ONES, ()), ("apart", ""))

    def test_sums_that_come_to_the_same_only_later(self):
        # the same over two digits more, but not over one
        for ticket, other in (("00", "11"), ("010", "001"), ("11", "10")):
            one, two = lone("01", ticket), lone("01", other)
            for more in range(7):
                tickets = brute_tickets("01", 3)
                expected = [("apart", ahead) for ahead in tickets
                            if brute_sum(one, ahead, more) != brute_sum(two, ahead, more)]
                self.assertEqual(fault_of(one, ("sums", more), two, ()), expected[0] if expected else None)
        # the difference of both is worth something over short tickets alone: with more digits nothing is left of it
        self.assertIsNone(fault_of(added(VALUE, lone("01", "0110")), ("sums", 5), VALUE, ()))
        self.assertEqual(fault_of(added(VALUE, lone("01", "0110")), ("sums", 4), VALUE, ()), ("apart", ""))
        self.assertEqual(fault_of(added(VALUE, lone("01", "0110")), ("sums", 3), VALUE, ()), ("apart", "0"))
        self.assertIsNone(fault_of(added(VALUE, lone("01", "0110")), ("sums", 10 ** 39), VALUE, ()))
        self.assertIsNone(fault_of(VALUE, ("sums", 10 ** 39), VALUE, ()))

    def test_made_of(self):
        found = set()
        for goal in (ONES, ZEROS, LENGTH, ONE, VALUE, EMPTY, times(2, ONES), times(4, LENGTH)):
            for others in ((ONES,), (times(2, ONES),), (ONES, ZEROS), (ONE, times(3, LENGTH), ONES), (EMPTY,)):
                fault = fault_of(goal, ("made of", tuple("abc"[:len(others)])), None, others)
                found.add(fault is None)
                if fault is not None:
                    self.assertEqual(fault[0], "barred")
                    self.assertIs(made_of_holds(goal, others, fault), True)
        self.assertEqual(found, {True, False})
        self.assertIsNone(fault_of(LENGTH, ("made of", ("a", "b")), None, (ONES, ZEROS)))
        self.assertIsNone(fault_of(times(3, ONES), ("made of", ("a",)), None, (ONES,)))
        self.assertIsNotNone(fault_of(ONES, ("made of", ("a",)), None, (times(3, ONES),)))

    def test_what_plays_no_part_is_not_looked_at(self):
        for before in (None, DIGITSUM, TWOS):
            for others in ((), (DIGITSUM,), None):
                self.assertIsNone(fault_of(ONES, ("rank", 2), before, others))
                self.assertEqual(fault_of(ONES, ("cap", 1), before, others), ("above", "11"))
                self.assertIsNone(fault_of(ONES, ("degree", 1), before, others))
        self.assertIsNone(fault_of(ONES, ("sums", 0), ONES, None))
        self.assertIsNone(fault_of(ONES, ("made of", ("a",)), None, (ONES,)))

    def test_other_digits(self):
        with self.assertRaises(OtherDigits):
            fault_of(ONES, ("sums", 0), DIGITSUM, ())
        with self.assertRaises(OtherDigits):
            fault_of(ONES, ("made of", ("a",)), None, (DIGITSUM,))

    def test_by_name(self):
        self.assertEqual(fault_of(tally=LENGTH, promise=("sums", 1), before=ONES, others=()), ("apart", ""))
