import random
import unittest

from tallyhouse.answers import (first_of, how_many, machine, next_of, nth_of, place_of, ticket_of, worths_in)
from tallyhouse.bounds import bounds_hold, is_bounded
from tallyhouse.errors import BadTicket, Unbounded
from tallyhouse.leasts import least
from tallyhouse.making import added, lone, multiplied, nought, times
from tallyhouse.tallies import Tally
from tests.bounded_samples import BOUNDED, GROWING, MADE_UP, SIGNED, THIRDS, companion
from tests.samples import (EMPTY, EVEN, ODD, ODDITIES, ONE, ONES, VALUE, brute_roll, brute_tickets, brute_worth, led)

SOME = BOUNDED[:-1] + [tally for tally in MADE_UP[::2] if is_bounded(tally)] + [companion((-1, 0, 1, 0))]


def longest(tally):
    return 9 if len(tally.digits) == 1 else 4 if len(tally.digits) == 2 else 3


def brute_machine(tally):
    """The classes of tickets, told apart by their worths with all short tickets behind them."""
    further = brute_tickets(tally.digits, max(len(tally) - 1, 0))
    numbers, firsts = {}, []

    def number_of(ticket):
        marks = tuple(brute_worth(tally, ticket + other) for other in further)
        if marks not in numbers:
            numbers[marks] = len(firsts)
            firsts.append(ticket)
        return numbers[marks]

    number_of("")
    moves = []
    while len(moves) < len(firsts):
        moves.append(tuple(number_of(firsts[len(moves)] + digit) for digit in tally.digits))
    return tuple(moves), tuple(brute_worth(tally, ticket) for ticket in firsts)


class AnswersTest(unittest.TestCase):
    def test_examples(self):
        self.assertEqual(machine(ODD), (((0, 1), (1, 0)), (0, 1)))
        self.assertEqual((how_many(ODD, 1, 3), first_of(ODD, 1, 3), nth_of(ODD, 1, 3, 3), place_of(ODD, "100")),
                         (4, "001", "111", 2))
        self.assertEqual((next_of(ODD, 1, "001"), next_of(ODD, 0, "11")), ("010", "000"))
        self.assertEqual((ticket_of(ODD, 1, 2), ticket_of(ODD, 0, 0)), ("10", ""))

    def test_machines(self):
        for tally in SOME:
            if len(tally) <= 3:
                moves, worths = machine(tally)
                self.assertEqual((moves, worths), brute_machine(tally), str(tally))
        self.assertEqual(machine(EMPTY), (((0, 0),), (0,)))
        self.assertEqual(machine(nought("0123456789")), (((0,) * 10,), (0,)))
        self.assertEqual(machine(EVEN), (((1,), (0,)), (1, 0)))
        self.assertEqual(machine(tally=THIRDS), (((0, 1), (1, 2), (2, 0)), (0, 1, 2)))
        self.assertEqual(machine(lone("01", "10")), (((1, 2), (1, 1), (3, 1), (1, 1)), (0, 0, 0, 1)))

    def test_states_are_the_rows_of_the_least_tally(self):
        for tally in SOME:
            told = least(tally)
            rows, last = {told.start}, {told.start}
            while last:
                last = {led(row, table) for row in last for table in told.tables} - rows
                rows |= last
            self.assertEqual(len(machine(tally)[0]), len(rows))

    def test_rolls(self):
        for tally in SOME:
            for length in range(longest(tally) + 1):
                tickets = brute_roll(tally.digits, length)
                worths = [brute_worth(tally, ticket) for ticket in tickets]
                self.assertEqual(worths_in(tally, length), tuple(sorted(set(worths))))
                for number in sorted(set(worths))[:3] + [10 ** 39, max(worths) + 1]:
                    having = [ticket for ticket, worth in zip(tickets, worths) if worth == number]
                    self.assertEqual(how_many(tally, number, length), len(having))
                    self.assertEqual(first_of(tally, number, length), having[0] if having else None)
                    for index in {0, 1, len(having) // 2, len(having) - 1, len(having), 10 ** 18} - {-1}:
                        self.assertEqual(nth_of(tally, number, length, index), having[index] if index < len(having) else None)
                    for index in {0, len(having) // 2, len(having) - 1} - {-1}:
                        if having:
                            self.assertEqual(place_of(tally, having[index]), index)

    def test_all_tickets(self):
        for tally in SOME:
            longer = longest(tally) + 1
            tickets = brute_tickets(tally.digits, longer)
            worths = [brute_worth(tally, ticket) for ticket in tickets]
            for number in sorted(set(worths))[:3] + [max(worths) + 1]:
                having = [ticket for ticket, worth in zip(tickets, worths) if worth == number]
                for index in {0, 1, len(having) // 2, len(having) - 1} - {-1}:
                    if index < len(having):
                        self.assertEqual(ticket_of(tally, number, index), having[index])
                for place in range(0, len(tickets), max(len(tickets) // 12, 1)):
                    following = [ticket for ticket, worth in zip(tickets[place + 1:], worths[place + 1:]) if worth == number]
                    found = next_of(tally, number, tickets[place])
                    if following:
                        self.assertEqual(found, following[0])
                    else:
                        self.assertTrue(found is None or len(found) > longer and tally.worth(found) == number)

    def test_worths_that_no_ticket_has(self):
        for number in (-1, 2, 10 ** 39):
            self.assertEqual([how_many(ODD, number, 5), first_of(ODD, number, 5), nth_of(ODD, number, 5, 0),
                              next_of(ODD, number, "0101"), ticket_of(ODD, number, 0)], [0, None, None, None, None])
        self.assertIsNone(ticket_of(EMPTY, 1, 0))
        self.assertEqual(ticket_of(EMPTY, 0, 10 ** 18), format(10 ** 18 + 1, "b")[1:])

    def test_finitely_many_tickets(self):
        tally = added(lone("01", "10"), lone("01", "01"))
        self.assertEqual([ticket_of(tally, 1, index) for index in range(3)], ["01", "10", None])
        self.assertEqual([next_of(tally, 1, ticket) for ticket in ("", "00", "01", "10", "0" * 60)],
                         ["01", "01", "10", None, None])
        self.assertEqual(ticket_of(tally, 1, 10 ** 18), None)
        self.assertEqual(first_of(lone("01", "10"), 1, 60), None)

    def test_only_at_some_lengths(self):
        # 0 at lengths that 4 divides not, of one digit and of three: behind long tickets it is far to the next one
        fours = companion((1, 0, 0, 0))
        self.assertEqual([fours.worth("0" * k) for k in range(8)], [0, 0, 0, 1, 0, 0, 0, 1])
        self.assertEqual(next_of(fours, 1, "0" * 59), "0" * 63)
        self.assertEqual([how_many(fours, 1, length) for length in (2, 3, 59, 60)], [0, 1, 1, 0])
        self.assertEqual(ticket_of(fours, 1, 40), "0" * 163)
        twelves = companion((-1, 0, 1, 0))
        self.assertEqual(next_of(twelves, 1, "0" * 3), "0" * 5)

    def test_rolls_of_length_0(self):
        self.assertEqual((how_many(ODD, 0, 0), how_many(ODD, 1, 0), worths_in(ODD, 0)), (1, 0, (0,)))
        self.assertEqual((first_of(ODD, 0, 0), first_of(ODD, 1, 0), nth_of(ODD, 0, 0, 1)), ("", None, None))
        self.assertEqual((place_of(ODD, ""), next_of(ODD, 0, ""), next_of(ODD, 1, "")), (0, "0", "1"))

    def test_sixty_digits(self):
        chance = random.Random(5)
        for tally, worths in ((ODD, (0, 1)), (THIRDS, (0, 1, 2)), (multiplied(ODD, ODD), (0, 1)), (lone("012", "21"), (0,))):
            self.assertEqual(worths_in(tally, 60), worths)
            self.assertEqual(sum(how_many(tally, number, 60) for number in worths), len(tally.digits) ** 60)
            for number in worths:
                for index in (0, 1, 3 * 10 ** 17, chance.randrange(10 ** 17)):
                    ticket = nth_of(tally, number, 60, index)
                    self.assertEqual((tally.worth(ticket), len(ticket), place_of(tally, ticket)), (number, 60, index))
                    following = next_of(tally, number, ticket)
                    self.assertEqual(following, nth_of(tally, number, 60, index + 1))
                    ticket = ticket_of(tally, number, index)
                    ahead = sum(how_many(tally, number, length) for length in range(len(ticket)))
                    self.assertEqual((tally.worth(ticket), place_of(tally, ticket) + ahead), (number, index))
        self.assertEqual(how_many(ODD, 1, 60), 2 ** 59)
        self.assertIsNone(nth_of(ODD, 1, 60, 10 ** 18))
        self.assertEqual(place_of(lone("012", "21"), nth_of(lone("012", "21"), 0, 60, 10 ** 18)), 10 ** 18)
        self.assertEqual(nth_of(ODD, 1, 60, 2 ** 59 - 1), "1" * 59 + "0")
        self.assertEqual(next_of(ODD, 0, "1" * 60), "0" * 61)
        self.assertEqual(next_of(ODD, 1, "1" * 60), "0" * 60 + "1")
        self.assertEqual(place_of(ONE, "1" * 60), 2 ** 60 - 1)

    def test_unbounded_ahead_of_all_else(self):
        for tally in GROWING:
            for told in (lambda: machine(tally), lambda: how_many(tally, 0, 3), lambda: worths_in(tally, 3),
                         lambda: first_of(tally, 0, 3), lambda: nth_of(tally, 0, 3, 0), lambda: place_of(tally, None),
                         lambda: next_of(tally, 0, None), lambda: ticket_of(tally, 0, 0), lambda: place_of(tally, "")):
                with self.assertRaises(Unbounded) as caught:
                    told()
                self.assertEqual(caught.exception.paper[0], "ever")
                self.assertIs(bounds_hold(tally, caught.exception.paper), True)

    def test_no_tickets(self):
        for thing in ODDITIES + ("2",):
            for told in (lambda: place_of(ODD, thing), lambda: next_of(ODD, 1, thing)):
                with self.assertRaises(BadTicket) as caught:
                    told()
                self.assertIs(caught.exception.ticket, thing)

    def test_by_name(self):
        self.assertEqual((how_many(tally=ODD, number=1, length=3), worths_in(tally=ODD, length=3),
                          first_of(tally=ODD, number=1, length=3), nth_of(tally=ODD, number=1, length=3, index=1),
                          place_of(tally=ODD, ticket="010"), next_of(tally=ODD, number=1, ticket="001"),
                          ticket_of(tally=ODD, number=1, index=0)), (4, (0, 1), "001", "010", 1, "010", "1"))

    def test_the_greatest_sizes(self):
        moves, worths = machine(SIGNED)
        self.assertEqual((len(moves), sorted(set(worths))), (192, [-3, -2, -1, 0, 1, 2, 3]))
        self.assertEqual(sum(how_many(SIGNED, number, 60) for number in range(-3, 4)), 3 ** 60)
        ticket = ticket_of(SIGNED, 2, 10 ** 18)
        self.assertEqual(SIGNED.worth(ticket), 2)
        self.assertEqual(ticket_of(SIGNED, 2, 10 ** 18 - 1) < ticket, True)
        self.assertEqual(next_of(SIGNED, 2, ticket_of(SIGNED, 2, 10 ** 18 - 1)), ticket)
        self.assertIsNone(next_of(times(10 ** 6, SIGNED), 1, "2" * 60))
        self.assertEqual(how_many(Tally("0", (1,), (((-1,),),), (7,)), -7, 59), 1)
        with self.assertRaises(Unbounded):
            machine(VALUE)
        with self.assertRaises(Unbounded):
            how_many(ONES, 10 ** 39, 60)
