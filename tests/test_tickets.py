import itertools
import unittest

from tallyhouse.tickets import are_digits, is_ahead, is_ticket, roll
from tests.samples import ODDITIES, brute_tickets


class TicketsTest(unittest.TestCase):
    def test_ascending_strings_are_digits(self):
        for many in range(1, 11):
            for digits in itertools.combinations("0123456789", many):
                self.assertIs(are_digits("".join(digits)), True)

    def test_other_values_are_no_digits(self):
        for thing in ("", "00", "10", "012 ", " 0", "0a", "a", "-1", "011", "01234567899", "9876543210", "0\n",
                      "01,2", ("0", "1"), ["0"], b"01") + ODDITIES:
            self.assertIs(are_digits(thing), False, repr(thing))

    def test_tickets_over_digits(self):
        for thing in ("", "0", "2", "0220", "2" * 2000):
            self.assertIs(is_ticket("02", thing), True)

    def test_other_values_are_no_tickets(self):
        for thing in ("1", "021", "0 2", "0\n", "02x", ("0", "2"), ["0"], {"0": "2"}, b"02"):
            self.assertIs(is_ticket("02", thing), False, repr(thing))
        for thing in ODDITIES:
            self.assertIs(is_ticket("02", thing), False, repr(thing))

    def test_ten_digits(self):
        self.assertIs(is_ticket("0123456789", "9876543210" * 4), True)
        self.assertEqual(roll("0123456789", 3), tuple(f"{k:03}" for k in range(1000)))

    def test_roll(self):
        self.assertEqual(roll("01", 2), ("00", "01", "10", "11"))
        self.assertEqual(roll("579", 1), ("5", "7", "9"))
        self.assertEqual(roll("01", 0), ("",))
        self.assertEqual(roll("7", 5), ("77777",))
        for digits, length in (("01", 6), ("012", 4), ("3", 30)):
            found = roll(digits, length)
            self.assertEqual(len(found), len(digits) ** length)
            self.assertEqual(list(found), sorted(set(found)))
            self.assertIsInstance(found, tuple)

    def test_order(self):
        tickets = brute_tickets("012", 3)
        for one, ticket in enumerate(tickets):
            for other, further in enumerate(tickets):
                self.assertIs(is_ahead(ticket, further), one < other)
        self.assertIs(is_ahead("2", "00"), True)
        self.assertIs(is_ahead("10", "2"), False)

    def test_by_name(self):
        self.assertIs(are_digits(thing="01"), True)
        self.assertIs(is_ticket(digits="01", thing="2"), False)
        self.assertEqual(roll(digits="0", length=1), ("0",))
        self.assertIs(is_ahead(one="", other="0"), True)
