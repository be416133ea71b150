"""Pieces: tickets with their tables by a tally."""

from tallyhouse.errors import OtherTally
from tallyhouse.rows import led_on, product_of


class Piece:
    """A ticket with its table by a tally."""

    def __init__(self, tally, ticket):
        self.table_now = tally.table(ticket)
        self.tally = tally
        self.ticket = ticket

    def __len__(self):
        return len(self.ticket)

    def __eq__(self, other):
        return isinstance(other, Piece) and self.tally == other.tally and self.ticket == other.ticket

    def joined(self, other):
        """The piece of both tickets, its own ahead; raises OtherTally if the tallies are not equal."""
        if self.tally != other.tally:
            raise OtherTally()
        return Piece(self.tally, self.ticket + other.ticket)

    def led(self, row):
        """The row to which a row is led on by the ticket."""
        return led_on(row, self.table_now)

    @property
    def worth_now(self):
        """The worth of its ticket."""
        return product_of(led_on(self.tally.start, self.table_now), self.tally.ends)
