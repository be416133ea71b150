import unittest

from tallyhouse.errors import BadTicket, OtherRoll
from tallyhouse.ranges import (beginnings, block_sum, range_sum, roll_sum, roll_sums, steps, sums, ticket_ahead,
                               ticket_behind)
from tallyhouse.sames import are_same
from tallyhouse.tallies import Tally
from tests.samples import (DIGITSUM, EMPTY, ODDITIES, ONES, VALUE, brute_roll, brute_tickets, made_up_tally)

TALLIES = [made_up_tally(seed, digits, size, -9, 9) for seed in range(3) for digits in ("0", "03", "159")
           for size in range(4)]
TENS = Tally("0123456789", (0, 1), tuple(((10, 0), (digit, 1)) for digit in range(10)), (1, 0))


class SumsTest(unittest.TestCase):
    def test_examples(self):
        self.assertEqual(range_sum(DIGITSUM, "01", "10"), 4)
        self.assertEqual(block_sum(DIGITSUM, "2", 2), 9)
        self.assertEqual(roll_sum(DIGITSUM, 2), 18)
        self.assertEqual(sums(DIGITSUM).worth("11"), 6)
        self.assertEqual([steps(DIGITSUM).worth(ticket) for ticket in ("11", "10", "00")], [1, -1, 0])

    def test_sums_and_steps(self):
        for tally in TALLIES:
            summed, stepped = sums(tally=tally), steps(tally=tally)
            self.assertLessEqual(len(summed), 2 * len(tally))
            self.assertLessEqual(len(stepped), 3 * len(tally))
            self.assertEqual((summed.digits, stepped.digits), (tally.digits, tally.digits))
            for length in range(4):
                total, last = 0, 0
                for ticket in brute_roll(tally.digits, length):
                    total += tally.worth(ticket)
                    self.assertEqual(summed.worth(ticket), total)
                    self.assertEqual(stepped.worth(ticket), tally.worth(ticket) - last)
                    last = tally.worth(ticket)

    def test_steps_of_sums_and_sums_of_steps(self):
        for tally in TALLIES:
            if len(tally) < 3:
                self.assertTrue(are_same(steps(sums(tally)), tally))
                self.assertTrue(are_same(sums(steps(tally)), tally))

    def test_sums_of_counts_are_counts(self):
        self.assertTrue(sums(ONES).is_count)

    def test_ranges(self):
        for tally in TALLIES:
            for length in range(3):
                tickets = brute_roll(tally.digits, length)
                for one, low in enumerate(tickets):
                    for other, high in enumerate(tickets):
                        expected = sum(tally.worth(ticket) for ticket in tickets[one:other + 1])
                        self.assertEqual(range_sum(tally, low, high), expected)
        self.assertEqual(range_sum(DIGITSUM, "10", "01"), 0)
        self.assertEqual(range_sum(tally=EMPTY, low="00", high="11"), 0)

    def test_rolls_that_cannot_be_listed(self):
        low, high = "1234567890" * 4, "9876543210" * 4
        self.assertEqual(range_sum(TENS, low, high), (int(low) + int(high)) * (int(high) - int(low) + 1) // 2)
        self.assertEqual(range_sum(TENS, high, low), 0)
        self.assertEqual(range_sum(TENS, "0" * 40, "9" * 40), roll_sum(TENS, 40))
        self.assertEqual(roll_sum(TENS, 40), (10 ** 40 - 1) * 10 ** 40 // 2)
        self.assertEqual(block_sum(TENS, "42", 40), sum((42 * 10 ** 38, 43 * 10 ** 38 - 1)) * 10 ** 38 // 2)
        self.assertEqual(sums(VALUE).worth("1" * 40), (2 ** 40 - 1) * 2 ** 39)

    def test_ranges_of_no_tickets(self):
        for told in (lambda low, high: range_sum(ONES, low, high), lambda low, high: beginnings("01", low, high)):
            for thing in ODDITIES + ("2", ["0"]):
                for low, high in ((thing, "0"), ("0", thing), (thing, None)):
                    with self.assertRaises(BadTicket) as caught:
                        told(low, high)
                    self.assertIs(caught.exception.ticket, thing)
            for low, high in (("0", "00"), ("11", "1"), ("", "0"), ("1", "")):
                with self.assertRaises(OtherRoll):
                    told(low, high)
            with self.assertRaises(BadTicket):
                told("0", "002")

    def test_blocks(self):
        for tally in TALLIES:
            for length in range(4):
                for beginning in brute_tickets(tally.digits, 4):
                    expected = sum(tally.worth(ticket) for ticket in brute_roll(tally.digits, length)
                                   if ticket.startswith(beginning))
                    self.assertEqual(block_sum(tally, beginning, length), expected)
        self.assertEqual(block_sum(tally=ONES, beginning="11", length=1), 0)

    def test_blocks_of_no_tickets(self):
        for thing in ODDITIES + ("2", "0 ", "222"):
            for length in (0, 2, 40):
                with self.assertRaises(BadTicket) as caught:
                    block_sum(ONES, thing, length)
                self.assertIs(caught.exception.ticket, thing)

    def test_rolls(self):
        for tally in TALLIES:
            expected = [sum(tally.worth(ticket) for ticket in brute_roll(tally.digits, length)) for length in range(5)]
            self.assertEqual([roll_sum(tally, length) for length in range(5)], expected)
            for many in range(6):
                self.assertEqual(roll_sums(tally, many), tuple(expected[:many]))
        self.assertEqual(roll_sums(tally=ONES, many=0), ())
        self.assertEqual(roll_sum(tally=ONES, length=3), 12)
        self.assertEqual(roll_sums(ONES, 41)[40], 40 * 2 ** 39)

    def test_cut_however(self):
        for tally in TALLIES:
            tickets = brute_roll(tally.digits, 3)
            for cut in range(1, len(tickets)):
                self.assertEqual(range_sum(tally, tickets[0], tickets[cut - 1]) + range_sum(tally, tickets[cut], tickets[-1]),
                                 roll_sum(tally, 3))


class BeginningsTest(unittest.TestCase):
    def test_examples(self):
        self.assertEqual(beginnings("012", "01", "20"), ("01", "02", "1", "20"))
        self.assertEqual(beginnings("012", "00", "22"), ("",))

    def test_the_fewest(self):
        for digits, longest in (("01", 4), ("147", 3), ("0123456789", 2)):
            for length in range(longest + 1):
                tickets = brute_roll(digits, length)
                heads = brute_tickets(digits, length)
                blocks = {head: [ticket for ticket in tickets if ticket.startswith(head)] for head in heads}
                for one in range(len(tickets)):
                    for other in range(one, len(tickets)):
                        inside = set(tickets[one:other + 1])
                        whole = {head for head in heads if inside.issuperset(blocks[head])}
                        fewest = sorted(head for head in whole if head == "" or head[:-1] not in whole)
                        self.assertEqual(beginnings(digits, tickets[one], tickets[other]), tuple(fewest))
                    if one:
                        self.assertEqual(beginnings(digits, tickets[one], tickets[one - 1]), ())

    def test_one_digit_alone_and_the_empty_ticket(self):
        for length in range(4):
            self.assertEqual(beginnings("7", "7" * length, "7" * length), ("",))
        self.assertEqual(beginnings("01", "", ""), ("",))
        self.assertEqual(beginnings("01", "0", "0"), ("0",))
        self.assertEqual(beginnings(digits="01", low="1", high="0"), ())

    def test_forty_digits(self):
        low, high = "0" * 39 + "1", "9" * 39 + "8"
        found = beginnings("0123456789", low, high)
        self.assertEqual(list(found), sorted(found))
        self.assertEqual(sum(10 ** (40 - len(head)) for head in found), 10 ** 40 - 2)
        self.assertEqual(len(found), 9 * 39 * 2 + 8)
        total = sum(range_sum(TENS, head + "0" * (40 - len(head)), head + "9" * (40 - len(head))) for head in found)
        self.assertEqual(total, range_sum(TENS, low, high))
        self.assertEqual(sum(block_sum(TENS, head, 40) for head in found), total)


class NeighboursTest(unittest.TestCase):
    def test_ahead_and_behind(self):
        for digits in ("0", "01", "359"):
            for length in range(4):
                tickets = brute_roll(digits, length)
                for place, ticket in enumerate(tickets):
                    expected = tickets[place - 1] if place else None
                    self.assertEqual(ticket_ahead(digits, ticket), expected)
                    expected = tickets[place + 1] if place + 1 < len(tickets) else None
                    self.assertEqual(ticket_behind(digits, ticket), expected)

    def test_edges(self):
        self.assertIsNone(ticket_ahead("01", ""))
        self.assertIsNone(ticket_behind("01", ""))
        self.assertEqual(ticket_ahead(digits="0123456789", ticket="1" + "0" * 39), "0" + "9" * 39)
        self.assertEqual(ticket_behind(digits="0123456789", ticket="0" + "9" * 39), "1" + "0" * 39)
