import unittest

from tallyhouse.errors import BadTicket, OtherDigits
from tallyhouse.making import added, ahead, behind, lessened, lone, met, multiplied, nought, times, turned
from tallyhouse.tallies import Tally
from tests.samples import EMPTY, ODDITIES, ONES, VALUE, brute_tickets, made_up_tally

PAIRS = [(made_up_tally(seed, "02", seed % 4), made_up_tally(seed + 100, "02", (seed + seed // 4) % 4))
         for seed in range(16)]
COUNTS = [(made_up_tally(seed, "02", 2, 0, 4), made_up_tally(seed + 50, "02", 3, 0, 4)) for seed in range(6)]
TICKETS = brute_tickets("02", 4)


class TwoTest(unittest.TestCase):
    def each(self, made, size, worth):
        for one, other in PAIRS:
            tally = made(one, other)
            self.assertIsInstance(tally, Tally)
            self.assertEqual(tally.digits, "02")
            self.assertLessEqual(len(tally), size(len(one), len(other)))
            for ticket in TICKETS:
                self.assertEqual(tally.worth(ticket), worth(one, other, ticket))

    def test_examples(self):
        self.assertEqual(added(ONES, VALUE).worth("11"), 5)
        self.assertEqual(multiplied(ONES, VALUE).worth("11"), 6)
        self.assertEqual(met(ONES, VALUE).worth("11"), 1)

    def test_added(self):
        self.each(added, lambda n, m: n + m, lambda one, other, ticket: one.worth(ticket) + other.worth(ticket))

    def test_lessened(self):
        self.each(lessened, lambda n, m: n + m, lambda one, other, ticket: one.worth(ticket) - other.worth(ticket))

    def test_multiplied(self):
        self.each(multiplied, lambda n, m: n * m, lambda one, other, ticket: one.worth(ticket) * other.worth(ticket))

    def test_met(self):
        def cut(one, other, ticket):
            return sum(one.worth(ticket[:k]) * other.worth(ticket[k:]) for k in range(len(ticket) + 1))

        self.each(met, lambda n, m: n + m + 1, cut)

    def test_of_counts_they_are_counts(self):
        for one, other in COUNTS:
            for made in (added, multiplied, met):
                self.assertTrue(made(one, other).is_count)

    def test_other_digits(self):
        for made in (added, lessened, multiplied, met):
            for digits in ("0", "1", "02", "012"):
                with self.assertRaises(OtherDigits):
                    made(ONES, nought(digits))
                with self.assertRaises(OtherDigits):
                    made(nought(digits), ONES)

    def test_without_states(self):
        self.assertEqual(added(EMPTY, ONES).worth("11"), 2)
        self.assertEqual(lessened(EMPTY, ONES).worth("11"), -2)
        for tally in (multiplied(EMPTY, ONES), multiplied(ONES, EMPTY), met(EMPTY, ONES), met(ONES, EMPTY)):
            self.assertEqual([tally.worth(ticket) for ticket in ("", "1", "10")], [0, 0, 0])
        self.assertEqual(len(multiplied(EMPTY, ONES)), 0)

    def test_ten_digits(self):
        tables = tuple(((1, 0), (digit, 1)) for digit in range(10))
        total = Tally("0123456789", (0, 1), tables, (1, 0))
        self.assertEqual(multiplied(total, total).worth("909"), 324)
        self.assertEqual(met(total, total).worth("12"), 2)

    def test_by_name(self):
        for made in (added, lessened, multiplied, met):
            self.assertEqual(made(one=ONES, other=VALUE), made(ONES, VALUE))

    def test_nothing_handed_in_changes(self):
        texts = str(ONES), str(VALUE)
        for made in (added, lessened, multiplied, met):
            self.assertEqual(made(ONES, VALUE), made(ONES, VALUE))
        self.assertEqual((str(ONES), str(VALUE)), texts)


class OneTest(unittest.TestCase):
    def test_examples(self):
        self.assertEqual(turned(VALUE).worth("011"), 6)
        self.assertEqual(ahead(VALUE, "1").worth("01"), 5)
        self.assertEqual(behind(VALUE, "1").worth("01"), 3)

    def test_worths(self):
        for one, _ in PAIRS:
            for ticket in TICKETS:
                self.assertEqual(turned(one).worth(ticket), one.worth(ticket[::-1]))
                for number in (-10 ** 6, -1, 0, 1, 10 ** 6):
                    self.assertEqual(times(number, one).worth(ticket), number * one.worth(ticket))
                for further in ("", "2", "0220"):
                    self.assertEqual(ahead(one, further).worth(ticket), one.worth(further + ticket))
                    self.assertEqual(behind(one, further).worth(ticket), one.worth(ticket + further))

    def test_states(self):
        for one, _ in PAIRS:
            for tally in (turned(one), times(3, one), times(0, one), ahead(one, "20"), behind(one, "02")):
                self.assertLessEqual(len(tally), len(one))
                self.assertEqual(tally.digits, "02")

    def test_counts(self):
        for one, _ in COUNTS:
            for tally in (turned(one), times(0, one), times(7, one), ahead(one, "202"), behind(one, "202")):
                self.assertTrue(tally.is_count)

    def test_no_tickets(self):
        for made in (ahead, behind):
            for tally in (ONES, EMPTY):
                for thing in ODDITIES + ("2", "012"):
                    with self.assertRaises(BadTicket) as caught:
                        made(tally, thing)
                    self.assertIs(caught.exception.ticket, thing)

    def test_by_name(self):
        self.assertEqual(times(number=2, tally=ONES), times(2, ONES))
        self.assertEqual(turned(tally=ONES), turned(ONES))
        self.assertEqual(ahead(tally=ONES, ticket="1"), ahead(ONES, "1"))
        self.assertEqual(behind(tally=ONES, ticket="1"), behind(ONES, "1"))


class AloneTest(unittest.TestCase):
    def test_nought(self):
        for digits in ("0", "01", "0123456789"):
            tally = nought(digits=digits)
            self.assertEqual((tally.digits, tally.start, tally.ends), (digits, (), ()))
            self.assertEqual(tally.tables, ((),) * len(digits))
            self.assertEqual(tally.worth(digits), 0)

    def test_lone(self):
        for ticket in ("", "0", "2", "02", "020", "2222", "0022"):
            tally = lone("02", ticket)
            self.assertLessEqual(len(tally), len(ticket) + 1)
            self.assertTrue(tally.is_count)
            for further in brute_tickets("02", 5):
                self.assertEqual(tally.worth(further), 1 if further == ticket else 0)

    def test_lone_of_forty_digits(self):
        ticket = "0123456789" * 4
        self.assertEqual(lone("0123456789", ticket).worth(ticket), 1)
        self.assertEqual(lone("0123456789", ticket).worth(ticket[1:]), 0)

    def test_lone_without_a_ticket(self):
        for thing in ODDITIES + ("1", "02 "):
            with self.assertRaises(BadTicket) as caught:
                lone("02", thing)
            self.assertIs(caught.exception.ticket, thing)
        self.assertEqual(lone(digits="0", ticket="0"), lone("0", "0"))
