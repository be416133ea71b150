"""The till: sells stretches of tickets by a tariff that can be changed, and pays back what was paid.

What it is at a time is a triple, never changed once it is made: the tariff, the sold stretches of each roll that has
any, by the number of digits, and the takings.
"""

from tallyhouse.errors import (BadDeed, NoStretch, NothingToRedo, NothingToUndo, NotSold, OtherDigits, SoldBefore,
                               TallyError)
from tallyhouse.ranges import range_sum
from tallyhouse.stretches import (first_sold, first_unsold, many_sold_in, paid_within, plain_stretches, with_stretch,
                                  without_stretch, worth_within)
from tallyhouse.tallies import Tally
from tallyhouse.tickets import is_stretch, is_ticket


class Till:
    """Sells tickets by a tariff."""

    def __init__(self, tally):
        self.deeds = []
        # What it was at first, and behind each deed.
        self.states = [(tally, {}, 0)]
        # Pairs of a deed that was taken back and what it led to, the last one taken back at the end.
        self.undone = []

    def __len__(self):
        return len(self.deeds)

    def __eq__(self, other):
        return isinstance(other, Till) and self.states[-1][:2] == other.states[-1][:2]

    @classmethod
    def of(cls, tally, log):
        """The till that does the deeds of a log; raises BadDeed with the number of the first that cannot be done."""
        till = cls(tally)
        if not isinstance(log, tuple):
            raise BadDeed(0)
        for number, deed in enumerate(log):
            if not can_do(till, deed):
                raise BadDeed(number)
        return till

    @property
    def tariff(self):
        """The tally by which it sells now."""
        return self.states[-1][0]

    def sell(self, low, high):
        """Sells a stretch and tells what is paid; raises NoStretch, SoldBefore."""
        tariff, rolls, taken = self.states[-1]
        check_stretch(tariff.digits, low, high)
        sold = rolls.get(len(low), ())
        ticket = first_sold(sold, low, high)
        if ticket is not None:
            raise SoldBefore(ticket)
        worth = range_sum(tariff, low, high)
        changed = with_roll(rolls, len(low), with_stretch(tariff.digits, sold, low, high, tariff))
        note(self, ("sell", low, high), (tariff, changed, taken + worth))
        return worth

    def take_back(self, low, high):
        """Takes a stretch back and tells what is paid back; raises NoStretch, NotSold."""
        tariff, rolls, taken = self.states[-1]
        check_stretch(tariff.digits, low, high)
        sold = rolls.get(len(low), ())
        ticket = first_unsold(tariff.digits, sold, low, high)
        if ticket is not None:
            raise NotSold(ticket)
        worth = paid_within(sold, low, high)
        changed = with_roll(rolls, len(low), without_stretch(tariff.digits, sold, low, high))
        note(self, ("return", low, high), (tariff, changed, taken - worth))
        return worth

    def set_tariff(self, tally):
        """Sells by another tariff from now on; raises OtherDigits."""
        tariff, rolls, taken = self.states[-1]
        if tally.digits != tariff.digits:
            raise OtherDigits()
        note(self, ("tariff", str(tally)), (tally, rolls, taken))

    def undo(self):
        """Takes the last deed back that is not taken back; raises NothingToUndo."""
        if len(self.deeds) == 0:
            raise NothingToUndo()
        self.undone.append((self.deeds.pop(), self.states.pop()))

    def redo(self):
        """Does the deed again that was taken back last, if no other one was done since; raises NothingToRedo."""
        if len(self.undone) == 0:
            raise NothingToRedo()
        deed, state = self.undone.pop()
        self.deeds.append(deed)
        self.states.append(state)

    def takings(self):
        """All that was paid, less all that was paid back."""
        return self.states[-1][2]

    def sold(self, length):
        """The tuple of the sold stretches of a roll."""
        return plain_stretches(self.tariff.digits, sold_in(self, length))

    def many_sold(self, length):
        """How many tickets of a roll are sold."""
        return many_sold_in(self.tariff.digits, sold_in(self, length))

    def first_free(self, length):
        """The first ticket of a roll that is not sold, None if all are."""
        digits = self.tariff.digits
        return first_unsold(digits, sold_in(self, length), digits[0] * length, digits[-1] * length)

    def is_sold(self, thing):
        """Whether any value is a ticket that is sold."""
        return self.paid(thing) is not None

    def paid(self, thing):
        """What was paid for any value that is a ticket that is sold, otherwise None."""
        if not is_ticket(self.tariff.digits, thing):
            return None
        for first, last, tariff in sold_in(self, len(thing)):
            if first <= thing <= last:
                return tariff.worth(thing)
        return None

    def would_pay(self, low, high):
        """What those tickets of a stretch that are not sold are worth now; raises NoStretch."""
        tariff = self.tariff
        check_stretch(tariff.digits, low, high)
        return range_sum(tariff, low, high) - worth_within(sold_in(self, len(low)), low, high, tariff)

    def log(self):
        """The tuple of the deeds, in order, without those that were taken back."""
        return tuple(self.deeds)

    def trial(self):
        """Another till that is as this one, with the same deeds to take back and to do again."""
        other = Till(self.tariff)
        other.deeds = list(self.deeds)
        other.states = list(self.states)
        other.undone = list(self.undone)
        return other


def note(till, deed, state):
    """Notes a deed, and what the till is behind it: what was taken back cannot be done again then."""
    till.deeds.append(deed)
    till.states.append(state)
    till.undone = []


def check_stretch(digits, low, high):
    """Raises NoStretch for any two values that tell no stretch over the digits."""
    if not is_stretch(digits, low, high):
        raise NoStretch(low, high)


def sold_in(till, length):
    """The sold stretches of a roll, with their tariffs."""
    return till.states[-1][1].get(length, ())


def with_roll(rolls, length, sold):
    """What is sold, with this in one roll; rolls in which nothing is sold are left out."""
    changed = {other: rolls[other] for other in rolls if other != length}
    if len(sold) > 0:
        changed[length] = sold
    return changed


def can_do(till, thing):
    """Whether any value is a deed that can be done by a till; if so, it is done."""
    if not isinstance(thing, tuple) or len(thing) == 0:
        return False
    try:
        if thing[0] == "sell" and len(thing) == 3:
            till.sell(thing[1], thing[2])
        elif thing[0] == "return" and len(thing) == 3:
            till.take_back(thing[1], thing[2])
        elif thing[0] == "tariff" and len(thing) == 2:
            till.set_tariff(Tally.read(thing[1]))
        else:
            return False
    except TallyError:
        return False
    return True
