import itertools
import random
import unittest

from tallyhouse.errors import BadDigit
from tallyhouse.leasts import rank
from tallyhouse.making import added, lone, multiplied, times
from tallyhouse.ranges import roll_sums
from tallyhouse.sames import are_same
from tallyhouse.tallies import Tally
from tallyhouse.wider import (is_by_length, is_free_of_order, is_reading, length_apart, length_apart_holds, merged,
                              order_apart, order_apart_holds, read_through, symmetries)
from tests.samples import (BOTH, DIGITSUM, EMPTY, LENGTH, ODD, ODDITIES, ONE, ONES, PAIRS, TWOS, VALUE, brute_tickets,
                           brute_worth, made_up_tally, spoiled)

# worth the number of 1 and of 2
ALIKE = Tally("012", (1, 0), (((1, 0), (0, 1)), ((1, 1), (0, 1)), ((1, 1), (0, 1))), (0, 1))
# worth the product of (number of 0) and (number of 1), plus that of 2 and 3
TURNS = added(multiplied(Tally("0123", (1, 0), (((1, 1), (0, 1)),) + (((1, 0), (0, 1)),) * 3, (0, 1)),
                         Tally("0123", (1, 0), (((1, 0), (0, 1)), ((1, 1), (0, 1))) + (((1, 0), (0, 1)),) * 2, (0, 1))),
              multiplied(Tally("0123", (1, 0), (((1, 0), (0, 1)),) * 2 + (((1, 1), (0, 1)), ((1, 0), (0, 1))), (0, 1)),
                         Tally("0123", (1, 0), (((1, 0), (0, 1)),) * 3 + (((1, 1), (0, 1)),), (0, 1))))
TALLIES = [ONES, VALUE, DIGITSUM, ODD, PAIRS, BOTH, ONE, TWOS, EMPTY, ALIKE, TURNS, LENGTH, lone("01", "010")]
TALLIES += [made_up_tally(seed, digits, size, -2, 2, 0.5) for seed in range(3) for digits in ("5", "01", "012")
            for size in range(4)]
# also tallies by which digits count alike, but not by their tables
TALLIES += [times(0, VALUE), added(VALUE, times(-1, VALUE)), added(added(VALUE, times(-1, VALUE)), LENGTH)]


def longest_for(tally):
    """So many digits tell all that two digits change ahead and behind."""
    return 5 if len(tally.digits) < 3 else 3


class ReadingTest(unittest.TestCase):
    def test_examples(self):
        self.assertEqual(read_through(DIGITSUM, ("01", ("12", ""))).worth("0010"), 9)
        self.assertEqual(read_through(VALUE, ("0123", ("00", "01", "10", "11"))).worth("21"), 9)

    def test_readings(self):
        for thing, right in ((("01", ("12", "")), True), (("0", ("",)), True), (("5", ("0",)), True),
                             (("01", ("0", "0")), True), (("012345", ("0",) * 6), True), (("01", ("12" * 4, "2" * 8)), True),
                             (("01", ("0",)), False), (("0", ("0", "1")), False), (("10", ("0", "1")), False),
                             (("", ()), False), (("01", ["0", "1"]), False), (["01", ("0", "1")], False),
                             (("01", ("0", "3")), False), (("01", ("0", None)), False), (("01", "01"), False),
                             (("01", ("0", "1"), 0), False), ((("0", "1"), ("0", "1")), False), (("01",), False),
                             (("00", ("0", "1")), False), (("0123456789", ("",) * 10), True), (("0a", ("0", "1")), False)):
            self.assertIs(is_reading(DIGITSUM, thing), right, repr(thing))
        for thing in ODDITIES:
            self.assertIs(is_reading(DIGITSUM, thing), False, repr(thing))
        chance = random.Random(2)
        for _ in range(100):
            thing = spoiled(("01", ("12", "", "0")[:2]), chance)
            right = (type(thing) is tuple and len(thing) == 2 and type(thing[0]) is str and thing[0] != ""
                     and set(thing[0]) <= set("0123456789") and list(thing[0]) == sorted(set(thing[0]))
                     and type(thing[1]) is tuple and len(thing[1]) == len(thing[0])
                     and all(type(word) is str and set(word) <= set("012") for word in thing[1]))
            self.assertIs(is_reading(DIGITSUM, thing), right, repr(thing))

    def test_read_through(self):
        chance = random.Random(5)
        for tally in TALLIES:
            for digits in ("0", "8", "01", "379", "012345"):
                words = tuple("".join(chance.choice(tally.digits) for _ in range(chance.choice((0, 1, 1, 2, 8))))
                              for _ in digits)
                found = read_through(tally, (digits, words))
                self.assertEqual(found.digits, digits)
                self.assertLessEqual(len(found), len(tally))
                self.assertLessEqual(rank(found), rank(tally))
                for ticket in brute_tickets(digits, 2):
                    told = "".join(words[digits.index(digit)] for digit in ticket)
                    self.assertEqual(found.worth(ticket), brute_worth(tally, told))

    def test_the_same_read_through(self):
        one, other = added(ONES, VALUE), added(VALUE, ONES)
        for reading in (("01", ("0", "1")), ("01", ("1", "0")), ("0", ("01",)), ("012", ("", "11", "0")), ("0", ("",))):
            self.assertTrue(are_same(read_through(one, reading), read_through(other, reading)))
        self.assertFalse(are_same(read_through(ONES, ("10"[::-1], ("1", "0"))), ONES))
        self.assertTrue(are_same(read_through(ONES, ("0", ("1",))), read_through(LENGTH, ("0", ("0",)))))
        self.assertIs(read_through(ONES, ("0", ("11",))).is_count, True)

    def test_merged(self):
        found = merged(DIGITSUM, "0", "2")
        self.assertEqual((found.digits, found.worth("00"), found.worth("01")), ("01", 8, 4))
        for tally in TALLIES:
            for kept, other in itertools.permutations(tally.digits, 2):
                found = merged(tally=tally, kept=kept, other=other)
                self.assertEqual(found.digits, tally.digits.replace(other, ""))
                self.assertLessEqual(len(found), len(tally))
                self.assertEqual(roll_sums(found, 4), roll_sums(tally, 4))
                for ticket in brute_tickets(found.digits, 3):
                    choices = [(kept, other) if digit == kept else (digit,) for digit in ticket]
                    told = sum(brute_worth(tally, "".join(digits)) for digits in itertools.product(*choices))
                    self.assertEqual(found.worth(ticket), told)

    def test_digits_that_are_none(self):
        for kept, other, digit in ((None, "0", None), ("3", "0", "3"), ("0", "3", "3"), ("0", "0", "0"), ("2", "2", "2"),
                                   ("x", "y", "x"), ("", "0", ""), ("0", "", ""), ("01", "0", "01"), ("0", 1, 1),
                                   (0, "3", 0), (["0"], "1", ["0"]), ("1", ("0",), ("0",)), ("0", DIGITSUM, DIGITSUM)):
            with self.assertRaises(BadDigit) as caught:
                merged(DIGITSUM, kept, other)
            self.assertTrue(caught.exception.digit == digit and type(caught.exception.digit) is type(digit))
        for kept, other in (("0", "0"), ("0", "1"), ("1", "0")):
            with self.assertRaises(BadDigit) as caught:
                merged(TWOS, kept, other)
            self.assertEqual(caught.exception.digit, "0" if kept == other else "1")


class AlikeTest(unittest.TestCase):
    def test_examples(self):
        self.assertEqual(symmetries(DIGITSUM), ("012",))
        self.assertIs(is_free_of_order(DIGITSUM), True)
        self.assertIs(is_by_length(DIGITSUM), False)
        self.assertIs(length_apart_holds(DIGITSUM, ("apart", "", "0", "1", "")), True)
        self.assertIs(is_free_of_order(VALUE), False)
        self.assertIs(order_apart_holds(VALUE, ("apart", "", "0", "1", "")), True)

    def test_symmetries(self):
        several = set()
        for tally in TALLIES:
            expected = []
            for order in itertools.permutations(tally.digits):
                exchange = dict(zip(tally.digits, order))
                if all(brute_worth(tally, ticket) == brute_worth(tally, "".join(exchange[digit] for digit in ticket))
                       for ticket in brute_tickets(tally.digits, longest_for(tally))):
                    expected.append("".join(order))
            self.assertEqual(symmetries(tally=tally), tuple(sorted(expected)))
            several.add(len(expected))
        self.assertEqual(several, {1, 2, 6, 8})

    def test_known_symmetries(self):
        self.assertEqual(symmetries(ALIKE), ("012", "021"))
        self.assertEqual(symmetries(BOTH), ("01", "10"))
        self.assertEqual(symmetries(LENGTH), ("01", "10"))
        self.assertEqual(symmetries(TWOS), ("0",))
        self.assertEqual(symmetries(TURNS), ("0123", "0132", "1023", "1032", "2301", "2310", "3201", "3210"))
        # 010 alone counts: 101 does not
        self.assertEqual(symmetries(lone("01", "010")), ("01",))
        # a round of three digits that goes one way alone: 0 behind 1, 1 behind 2, 2 behind 0
        tables = []
        for digit in range(3):
            rows = [[0] * 5 for _ in range(5)]
            rows[0][1 + digit] = 1
            for last in range(3):
                rows[1 + last][1 + digit] = 1
            rows[1 + (digit + 1) % 3][4] = 1
            rows[4][4] = 1
            tables.append(tuple(map(tuple, rows)))
        around = Tally("012", (1, 0, 0, 0, 0), tuple(tables), (0, 0, 0, 0, 1))
        self.assertEqual([around.worth(ticket) for ticket in ("10", "01", "102", "021")], [1, 0, 2, 2])
        self.assertEqual(symmetries(around), ("012", "120", "201"))

    def test_order_and_length(self):
        seen = set()
        for tally in TALLIES:
            tickets = brute_tickets(tally.digits, longest_for(tally))
            worths, sizes = {}, {}
            for ticket in tickets:
                worths.setdefault("".join(sorted(ticket)), set()).add(brute_worth(tally, ticket))
                sizes.setdefault(len(ticket), set()).add(brute_worth(tally, ticket))
            free = all(len(found) == 1 for found in worths.values())
            alike = all(len(found) == 1 for found in sizes.values())
            seen.add((free, alike))
            self.assertIs(is_free_of_order(tally), free)
            self.assertIs(is_by_length(tally), alike)
            for found, right, check, told in ((order_apart(tally), free, order_apart_holds, is_right_order),
                                              (length_apart(tally), alike, length_apart_holds, is_right_length)):
                self.assertEqual(found is None, right)
                if found is not None:
                    self.assertTrue(told(tally, found))
                    self.assertIs(check(tally, found), True)
        self.assertEqual(seen, {(False, False), (True, False), (True, True)})

    def test_known_ones(self):
        for tally, free, alike in ((ONES, True, False), (LENGTH, True, True), (EMPTY, True, True), (TWOS, True, True),
                                   (PAIRS, False, False), (BOTH, True, False), (times(0, VALUE), True, True),
                                   (lone("01", "00"), True, False), (lone("01", "01"), False, False),
                                   (lone("01", ""), True, True)):
            self.assertEqual((is_free_of_order(tally), is_by_length(tally)), (free, alike))
        self.assertIsNone(order_apart(ONES))
        self.assertIsNone(length_apart(LENGTH))
        # it shows only with tickets ahead and behind
        late = lone("01", "0101100")
        self.assertTrue(is_right_order(late, order_apart(late)))
        self.assertTrue(is_right_length(late, length_apart(late)))

    def test_papers_with_something_otherwise(self):
        chance = random.Random(3)
        found = set()
        for tally in TALLIES:
            for paper, check, told in ((order_apart(tally), order_apart_holds, is_right_order),
                                       (length_apart(tally), length_apart_holds, is_right_length)):
                paper = paper or ("apart", "0", "0", tally.digits[-1], "")
                for _ in range(12):
                    thing = spoiled(paper, chance)
                    right = told(tally, thing)
                    found.add(right)
                    self.assertIs(check(tally, thing), right, repr(thing))
        self.assertEqual(found, {True, False})

    def test_papers_by_another_hand(self):
        for one, other in itertools.product("01", repeat=2):
            for ahead, behind in itertools.product(("", "1", "01", "0" * 1000), repeat=2):
                thing = ("apart", ahead, one, other, behind)
                for tally in (VALUE, ONES, PAIRS):
                    if len(ahead + behind) < 9:
                        self.assertIs(order_apart_holds(tally, thing), is_right_order(tally, thing))
                        self.assertIs(length_apart_holds(tally, thing), is_right_length(tally, thing))
                self.assertIs(order_apart_holds(VALUE, thing), one != other)
                self.assertIs(length_apart_holds(VALUE, thing), one != other)
        for thing in ODDITIES + (("apart", "", "0", "2", ""), ("apart", "", "", "1", ""), ("apart", "", "01", "1", ""),
                                 ("apart", "2", "0", "1", ""), ("apart", "", "0", "1", None), ("apart", None, "0", "1", ""),
                                 ("apart", "", 0, 1, ""), ("apart", "", "0", "1"), ("apart", "", "0", "1", "", ""),
                                 ["apart", "", "0", "1", ""], ("Apart", "", "0", "1", ""), ("apart", "", ["0"], "1", "")):
            self.assertIs(order_apart_holds(VALUE, thing), False, repr(thing))
            self.assertIs(length_apart_holds(VALUE, thing), False, repr(thing))

    def test_by_name(self):
        self.assertIs(is_reading(tally=ONES, thing=("0", ("",))), True)
        self.assertEqual(read_through(tally=ONES, reading=("0", ("11",))).worth("0"), 2)
        self.assertIs(is_free_of_order(tally=ONES), True)
        self.assertIs(is_by_length(tally=ONES), False)
        self.assertIs(order_apart_holds(tally=VALUE, thing=order_apart(tally=VALUE)), True)
        self.assertIs(length_apart_holds(tally=VALUE, thing=length_apart(tally=VALUE)), True)


def is_right_paper(tally, thing):
    if type(thing) is not tuple or len(thing) != 5 or type(thing[0]) is not str or thing[0] != "apart":
        return False
    if not all(type(part) is str and set(part) <= set(tally.digits) for part in thing[1:]):
        return False
    return len(thing[2]) == 1 and len(thing[3]) == 1


def is_right_order(tally, thing):
    if not is_right_paper(tally, thing):
        return False
    word, ahead, one, other, behind = thing
    return brute_worth(tally, ahead + one + other + behind) != brute_worth(tally, ahead + other + one + behind)


def is_right_length(tally, thing):
    if not is_right_paper(tally, thing):
        return False
    word, ahead, one, other, behind = thing
    return brute_worth(tally, ahead + one + behind) != brute_worth(tally, ahead + other + behind)
