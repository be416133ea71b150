import random
import unittest

from tallyhouse.errors import BadTicket
from tallyhouse.making import lone, multiplied, nought, times
from tallyhouse.ranges import (beginnings, block_sum, range_sum, roll_sum, steps, sums, ticket_ahead,
                               ticket_behind)
from tallyhouse.takings import cuts, takings, takings_hold
from tests.samples import (DIGITSUM, EMPTY, LENGTH, ODDITIES, ONE, ONES, TWOS, VALUE, brute_roll, brute_worth,
                           made_up_count, spoiled)

COUNTS = [made_up_count(seed, digits, size, high, 0.6) for digits in ("0", "01", "012") for seed, size, high in
          ((1, 0, 1), (2, 1, 2), (3, 2, 9), (4, 3, 1), (5, 4, 2), (6, 2, 1))]


def brute_takings(tally, ticket, amount):
    """By the words of the document, one ticket behind the other."""
    taken = 0
    for other in brute_roll(tally.digits, len(ticket)):
        if other >= ticket:
            if taken + brute_worth(tally, other) >= amount:
                return ("at", other, taken)
            taken += brute_worth(tally, other)
    return ("never", taken)


class TakingsTest(unittest.TestCase):
    def test_examples(self):
        self.assertEqual(takings(DIGITSUM, "01", 4), ("at", "10", 3))
        self.assertEqual(takings(DIGITSUM, "21", 9), ("never", 7))
        self.assertEqual(cuts(DIGITSUM, 2, (1, 3, 99)), ("01", "02", None))

    def test_one_ticket_behind_the_other(self):
        kinds = set()
        for tally in COUNTS:
            for length in range(4):
                for ticket in brute_roll(tally.digits, length):
                    total = range_sum(tally, ticket, tally.digits[-1] * length)
                    for amount in sorted({1, 2, 3, total // 2, total - 1, total, total + 1, 10 ** 39} - {0, -1}):
                        found = takings(tally, ticket, amount)
                        kinds.add(found[0])
                        self.assertEqual(found, brute_takings(tally, ticket, amount))
                        self.assertIs(takings_hold(tally, ticket, amount, found), True)
        self.assertEqual(kinds, {"at", "never"})

    def test_edges(self):
        self.assertEqual(takings(EMPTY, "0101", 1), ("never", 0))
        self.assertEqual(takings(nought("0123456789"), "", 1), ("never", 0))
        self.assertEqual(takings(TWOS, "000", 8), ("at", "000", 0))
        self.assertEqual(takings(TWOS, "000", 9), ("never", 8))
        self.assertEqual(takings(ONE, "", 1), ("at", "", 0))
        self.assertEqual(takings(ONES, "", 1), ("never", 0))
        self.assertEqual(takings(lone("01", "0110"), "0000", 1), ("at", "0110", 0))
        self.assertEqual(takings(lone("01", "0110"), "0111", 1), ("never", 0))

    def test_tickets_that_are_worth_nothing_are_no_first_ones(self):
        self.assertEqual(takings(ONES, "0000", 1), ("at", "0001", 0))
        self.assertEqual(takings(ONES, "0011", 4), ("at", "0101", 3))
        self.assertEqual(takings(lone("012", "11"), "00", 1), ("at", "11", 0))

    def test_no_tickets(self):
        for thing in ODDITIES + ("3", "0a"):
            with self.assertRaises(BadTicket) as caught:
                takings(DIGITSUM, thing, 1)
            self.assertIs(caught.exception.ticket, thing)

    def test_cuts(self):
        for tally in COUNTS:
            for length in range(4):
                amounts = tuple(sorted({1, 2, 5, 9, 17, max(roll_sum(tally, length), 1), 10 ** 39}))
                expected = [brute_takings(tally, tally.digits[0] * length, amount) for amount in amounts]
                self.assertEqual(cuts(tally, length, amounts), tuple(told[1] if told[0] == "at" else None
                                                                     for told in expected))
                self.assertEqual(cuts(tally, length, ()), ())
        self.assertEqual(cuts(EMPTY, 3, (1, 2)), (None, None))
        self.assertEqual(cuts(ONE, 0, (1, 2)), ("", None))

    def test_twelve_amounts_of_forty_digits(self):
        amounts = tuple(10 ** 38 + k * 3 ** 80 for k in range(12))
        for amount, ticket in zip(amounts, cuts(times(9, multiplied(VALUE, VALUE)), 40, amounts)):
            if ticket is None:
                self.assertLess(roll_sum(times(9, multiplied(VALUE, VALUE)), 40), amount)
            else:
                self.assertEqual(takings(times(9, multiplied(VALUE, VALUE)), "0" * 40, amount)[:2], ("at", ticket))

    def test_forty_digits(self):
        chance = random.Random(5)
        seen = set()
        for tally in COUNTS + [ONES, VALUE, LENGTH, sums(ONES), multiplied(DIGITSUM, DIGITSUM), made_up_count(9, "159", 4, 9, 0)]:
            last = tally.digits[-1] * 40
            for _ in range(6):
                ticket = "".join(chance.choice(tally.digits) for _ in range(40))
                amount = max(1, range_sum(tally, ticket, last) * chance.randrange(12) // 10)
                found = takings(tally, ticket, amount)
                seen.add(found[0])
                if found[0] == "never":
                    self.assertEqual(found[1], range_sum(tally, ticket, last))
                    self.assertLess(found[1], amount)
                    continue
                # these three tell the one first ticket
                self.assertGreaterEqual(found[1], ticket)
                self.assertEqual(found[2] + tally.worth(found[1]), range_sum(tally, ticket, found[1]))
                self.assertTrue(found[2] < amount <= found[2] + tally.worth(found[1]))
                self.assertIs(takings_hold(tally, ticket, amount, found), True)
        self.assertEqual(seen, {"at", "never"})
        self.assertEqual(takings(ONE, "0" * 40, 2 ** 39 + 1), ("at", "1" + "0" * 39, 2 ** 39))

    def test_just_this_tuple_holds(self):
        for thing in (("at", "10", 3.0), ["at", "10", 3], ("at", "10", "3"), ("at", "10"), ("at", "10", 3, None),
                      ("at", "02", 1), ("at", "11", 4), ("never", 3), ("At", "10", 3), ("at", ("1", "0"), 3), "at"):
            self.assertIs(takings_hold(DIGITSUM, "01", 4, thing), False, repr(thing))
        self.assertIs(takings_hold(DIGITSUM, "01", 4, ("at", "10", 3)), True)
        self.assertIs(takings_hold(ONE, "0", 1, ("at", "0", False)), False)
        self.assertIs(takings_hold(ONE, "0", 2, ("at", "1", True)), False)
        self.assertIs(takings_hold(ONE, "", 2, ("never", True)), False)
        self.assertIs(takings_hold(ONE, "", 2, ("never", 1)), True)

    def test_any_value(self):
        for thing in ODDITIES:
            self.assertIs(takings_hold(DIGITSUM, "01", 4, thing), False, repr(thing))
            self.assertIs(takings_hold(ONES, "", 4, thing), False, repr(thing))

    def test_with_something_otherwise(self):
        chance = random.Random(11)
        for tally in COUNTS:
            for amount in (1, 4, 50):
                paper = takings(tally, tally.digits[0] * 3, amount)
                for _ in range(30):
                    thing = spoiled(paper, chance)
                    self.assertIs(takings_hold(tally, tally.digits[0] * 3, amount, thing),
                                  repr(thing) == repr(paper), repr(thing))

    def test_by_name(self):
        self.assertEqual(takings(tally=DIGITSUM, ticket="01", amount=4), ("at", "10", 3))
        self.assertIs(takings_hold(tally=DIGITSUM, ticket="01", amount=4, thing=("at", "10", 3)), True)
        self.assertEqual(cuts(tally=DIGITSUM, length=2, amounts=(1,)), ("01",))


class RollsWithoutListsTest(unittest.TestCase):
    """What is told of ranges and sums, in rolls of forty digits."""

    def test_ranges_blocks_and_beginnings(self):
        chance = random.Random(3)
        for digits in ("01", "0123456789"):
            one = made_up_count(1, digits, 2, 9, 0.2)
            for _ in range(4):
                low, high = sorted("".join(chance.choice(digits) for _ in range(40)) for _ in range(2))
                heads = beginnings(digits, low, high)
                self.assertEqual(list(heads), sorted(heads))
                self.assertEqual(sum(len(digits) ** (40 - len(head)) for head in heads),
                                 int(high, len(digits)) - int(low, len(digits)) + 1)
                self.assertEqual(sum(block_sum(one, head, 40) for head in heads), range_sum(one, low, high))
                self.assertTrue(all(low[:len(head)] <= head <= high[:len(head)] for head in heads))
                self.assertEqual(range_sum(one, low, high) - one.worth(low),
                                 range_sum(one, ticket_behind(digits, low), high))

    def test_sums_and_steps(self):
        chance = random.Random(4)
        for tally in (ONES, VALUE, DIGITSUM, made_up_count(2, "07", 3, 9, 0.1)):
            for _ in range(4):
                ticket = "".join(chance.choice(tally.digits) for _ in range(40))
                ahead = ticket_ahead(tally.digits, ticket)
                self.assertEqual(sums(tally).worth(ticket), range_sum(tally, tally.digits[0] * 40, ticket))
                self.assertEqual(steps(tally).worth(ticket), tally.worth(ticket) - tally.worth(ahead))
        self.assertEqual(sums(ONE).worth("1" * 40), 2 ** 40)
        self.assertEqual(steps(VALUE).worth("1" + "0" * 39), 1)
