import unittest

from tallyhouse.errors import BadTicket, OtherTally
from tallyhouse.making import nought, times
from tallyhouse.pieces import Piece
from tallyhouse.tallies import Tally
from tests.samples import EMPTY, ODDITIES, ONES, VALUE, brute_tickets, made_up_tally


class PieceTest(unittest.TestCase):
    def test_attributes(self):
        piece = Piece(tally=VALUE, ticket="10")
        self.assertIs(piece.tally, VALUE)
        self.assertEqual((piece.ticket, piece.table_now), ("10", ((1, 2), (0, 4))))
        self.assertEqual((len(piece), piece.worth_now), (2, 2))

    def test_the_empty_ticket(self):
        piece = Piece(VALUE, "")
        self.assertEqual((len(piece), piece.table_now, piece.worth_now), (0, ((1, 0), (0, 1)), 0))
        self.assertEqual(piece.led((5, -7)), (5, -7))

    def test_without_states(self):
        piece = Piece(EMPTY, "011")
        self.assertEqual((piece.table_now, piece.worth_now, piece.led(())), ((), 0, ()))

    def test_no_tickets(self):
        for thing in ODDITIES + ("2",):
            with self.assertRaises(BadTicket) as caught:
                Piece(ONES, thing)
            self.assertIs(caught.exception.ticket, thing)

    def test_joined(self):
        for seed in range(6):
            tally = made_up_tally(seed, "01", 3)
            again = Tally(tally.digits, tally.start, tally.tables, tally.ends)
            for one in brute_tickets("01", 2):
                for other in brute_tickets("01", 2):
                    piece = Piece(tally, one).joined(Piece(again, other))
                    self.assertEqual((piece.tally, piece.ticket), (tally, one + other))
                    self.assertEqual(piece.table_now, tally.table(one + other))
                    self.assertEqual(piece.worth_now, tally.worth(one + other))

    def test_joined_changes_neither(self):
        one, other = Piece(ONES, "0"), Piece(ONES, "11")
        self.assertEqual(one.joined(other=other), Piece(ONES, "011"))
        self.assertEqual((one.ticket, other.ticket, len(one), len(other)), ("0", "11", 1, 2))

    def test_other_tallies(self):
        for tally in (VALUE, times(2, ONES), nought("01"), nought("0")):
            with self.assertRaises(OtherTally):
                Piece(ONES, "").joined(Piece(tally, ""))

    def test_equal(self):
        self.assertTrue(Piece(ONES, "1") == Piece(Tally("01", ONES.start, ONES.tables, ONES.ends), "1"))
        self.assertFalse(Piece(ONES, "1") == Piece(ONES, "01"))
        self.assertFalse(Piece(ONES, "1") == Piece(VALUE, "1"))
        self.assertFalse(Piece(ONES, "0") == Piece(ONES, ""))
        for thing in ODDITIES + ("1", (ONES, "1")):
            self.assertIs(Piece(ONES, "1") == thing, False)

    def test_led(self):
        self.assertEqual(Piece(VALUE, "10").led(row=(3, 5)), (3, 26))
        for ticket in brute_tickets("01", 4):
            self.assertEqual(Piece(VALUE, ticket).led(VALUE.start), VALUE.row(ticket))
        self.assertEqual(Piece(ONES, "1" * 40).led((10 ** 6, -10 ** 6)), (10 ** 6, 39 * 10 ** 6))
