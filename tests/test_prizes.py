import random
import unittest

from tallyhouse.errors import BadTicket
from tallyhouse.fronts import are_covered, front_of
from tallyhouse.making import added, lone, met, multiplied, nought, times, turned
from tallyhouse.prizes import (greatest, greatest_behind, greatest_holds, greatest_ticket, greatests, highest_rows,
                               is_below, judge_greatest, judge_lowest, lowest, lowest_behind, lowest_holds, lowest_rows,
                               lowest_ticket, lowests)
from tallyhouse.tallies import Tally
from tests.growth_samples import CROSSED, KNOWN, USELESS
from tests.samples import (BOTH, DIGITSUM, EMPTY, EVEN, LENGTH, ODD, ODDITIES, ONE, ONES, PAIRS, TWOS, VALUE, ZEROS,
                           brute_roll, brute_worth, led, made_up_count, spoiled)

# 2 to the power of how many 0, 1 and 2 there are: as many highest rows as there are such triples of numbers.
TRIPLES = Tally("012", (1, 1, 1), tuple(tuple(tuple((2 if i == k else 1) if i == j else 0 for j in range(3)) for i in range(3))
                                        for k in range(3)), (1, 1, 1))
# Each row is (2 ** n, 2 ** n), and each ticket tells another part of it: all of them have the same worth.
EVENLY = Tally("01", (1, 1), (((2, 1), (0, 1)), ((1, 0), (1, 2))), (1, 1))
SHARES = Tally("01", (1, 1, 1), (((2, 1, 0), (0, 1, 0), (0, 0, 1)), ((1, 0, 0), (1, 2, 0), (0, 0, 1))), (1, 0, 0))
COUNTS = (KNOWN + [made_up_count(seed, digits, size, high, thin) for digits in ("5", "01", "012") for seed, size, high, thin in
                   ((1, 0, 1, 0.5), (2, 1, 2, 0.3), (3, 2, 9, 0.3), (4, 3, 1, 0.6), (5, 4, 2, 0.7), (6, 2, 1, 0.4),
                    (7, 3, 9, 0.7), (8, 4, 1, 0.7), (9, 3, 2, 0.5), (10, 4, 1, 0.8))]
          + [BOTH, PAIRS, DIGITSUM, ODD, TRIPLES, EVENLY, SHARES, turned(SHARES), met(ODD, ONES), multiplied(ODD, ZEROS),
             lone("012", "210"), turned(PAIRS), added(lone("01", "10"), lone("01", "01"))])


def longest(tally):
    return 9 if len(tally.digits) == 1 else 5 if len(tally.digits) == 2 else 3


def brute_leading(tally):
    states = {state for state, number in enumerate(tally.ends) if number}
    for _ in range(len(tally)):
        states |= {p for table in tally.tables for p in range(len(tally)) for q in states if table[p][q]}
    return states


def brute_row(tally, ticket):
    row = tally.start
    for digit in ticket:
        row = led(row, tally.tables[tally.digits.index(digit)])
    return row


def brute_rows(tally, length):
    """The rows of a roll, with 0 in the place of each state that does not lead to an end."""
    states = brute_leading(tally)
    return {tuple(number if state in states else 0 for state, number in enumerate(brute_row(tally, ticket)))
            for ticket in brute_roll(tally.digits, length)}


def all_less(one, other):
    return all(a <= b for a, b in zip(one, other))


def is_right(tally, length, thing, word):
    """Whether a paper is right, by the words of the document."""
    if type(thing) is not tuple or len(thing) != 3 or type(thing[0]) is not str or thing[0] != word:
        return False
    name, ticket, layers = thing
    if type(ticket) is not str or len(ticket) != length or not all(sign in tally.digits for sign in ticket):
        return False
    if type(layers) is not tuple or len(layers) != length + 1:
        return False
    for layer in layers:
        if type(layer) is not tuple or not layer:
            return False
        if not all(type(row) is tuple and len(row) == len(tally) and all(type(part) is int and part >= 0 for part in row)
                   for row in layer):
            return False
        if list(layer) != sorted(set(layer)):
            return False
    states = brute_leading(tally)

    def is_let(row, tops):
        row = [row[state] for state in states]
        tops = [[top[state] for state in states] for top in tops]
        return any(all_less(row, top) if word == "greatest" else all_less(top, row) for top in tops)

    if not is_let(tally.start, layers[0]):
        return False
    for layer, further in zip(layers, layers[1:]):
        if not all(is_let(led(row, table), further) for row in layer for table in tally.tables):
            return False
    worths = [sum(a * b for a, b in zip(row, tally.ends)) for row in layers[-1]]
    worth = brute_worth(tally, ticket)
    return max(worths) <= worth if word == "greatest" else min(worths) >= worth


class PrizesTest(unittest.TestCase):
    def test_examples(self):
        self.assertEqual(greatest(PAIRS, 5), 4)
        self.assertEqual((greatest_ticket(PAIRS, 5), lowest_ticket(PAIRS, 5)), ("11111", "00000"))
        self.assertEqual(highest_rows(ONES, 3), ((1, 3),))
        self.assertIs(greatest_holds(ONES, 2, ("greatest", "11", (((1, 0),), ((1, 1),), ((1, 2),)))), True)
        self.assertEqual((greatest(BOTH, 4), greatest_ticket(BOTH, 4), lowest(BOTH, 4), lowest_ticket(BOTH, 4)),
                         (17, "0000", 8, "0011"))
        self.assertEqual(highest_rows(BOTH, 2), ((1, 4), (2, 2), (4, 1)))

    def test_worths_and_tickets(self):
        for tally in COUNTS:
            for length in range(longest(tally) + 1):
                tickets = brute_roll(tally.digits, length)
                worths = [brute_worth(tally, ticket) for ticket in tickets]
                self.assertEqual(greatest(tally, length), max(worths))
                self.assertEqual(lowest(tally, length), min(worths))
                self.assertEqual(greatest_ticket(tally, length), tickets[worths.index(max(worths))], str(tally))
                self.assertEqual(lowest_ticket(tally, length), tickets[worths.index(min(worths))], str(tally))

    def test_first_tickets_of_counts_with_many_like_worths(self):
        for seed in range(150):
            tally = made_up_count(seed, "01" if seed % 3 else "012", 2 + seed % 3, 1 + seed % 2, 0.5 + seed % 4 * 0.1)
            length = 6 if seed % 3 else 4
            tickets = brute_roll(tally.digits, length)
            worths = [tally.worth(ticket) for ticket in tickets]
            self.assertEqual(greatest_ticket(tally, length), tickets[worths.index(max(worths))], seed)
            self.assertEqual(lowest_ticket(tally, length), tickets[worths.index(min(worths))], seed)

    def test_of_many_lengths(self):
        for tally in COUNTS[::2]:
            self.assertEqual(greatests(tally, 5), tuple(greatest(tally, length) for length in range(5)))
            self.assertEqual(lowests(tally, 5), tuple(lowest(tally, length) for length in range(5)))
            self.assertEqual((greatests(tally, 0), lowests(tally, 0)), ((), ()))
            self.assertEqual((greatests(tally, 1), lowests(tally, 1)), ((tally.worth(""),),) * 2)
        self.assertEqual(greatests(BOTH, 5), (2, 3, 5, 9, 17))
        self.assertEqual(lowests(BOTH, 5), (2, 3, 4, 6, 8))
        self.assertEqual(greatests(tally=VALUE, many=31), tuple(2 ** length - 1 for length in range(31)))

    def test_behind(self):
        for tally in COUNTS[::2]:
            for ticket in brute_roll(tally.digits, 2) + [""]:
                for more in range(longest(tally) - 1):
                    worths = [brute_worth(tally, ticket + other) for other in brute_roll(tally.digits, more)]
                    self.assertEqual(greatest_behind(tally, ticket, more), max(worths))
                    self.assertEqual(lowest_behind(tally, ticket, more), min(worths))
        self.assertEqual(greatest_behind(tally=VALUE, ticket="0" * 10, more=20), 2 ** 20 - 1)
        self.assertEqual(lowest_behind(tally=VALUE, ticket="1" * 30, more=0), 2 ** 30 - 1)

    def test_no_tickets(self):
        for thing in ODDITIES + ("2",):
            for told in (greatest_behind, lowest_behind):
                with self.assertRaises(BadTicket) as caught:
                    told(ONES, thing, 3)
                self.assertIs(caught.exception.ticket, thing)

    def test_highest_and_lowest_rows(self):
        for tally in COUNTS:
            for length in range(longest(tally)):
                rows = brute_rows(tally, length)
                highest = [row for row in rows if not any(row != other and all_less(row, other) for other in rows)]
                lowest_ones = [row for row in rows if not any(row != other and all_less(other, row) for other in rows)]
                self.assertEqual(highest_rows(tally, length), tuple(sorted(highest)))
                self.assertEqual(lowest_rows(tally, length), tuple(sorted(lowest_ones)))

    def test_states_that_lead_to_no_end(self):
        tally = Tally("01", (1, 1), (((1, 0), (0, 2)), ((2, 0), (0, 3))), (1, 0))
        self.assertEqual((highest_rows(tally, 2), lowest_rows(tally, 2)), (((4, 0),), ((1, 0),)))
        self.assertIs(is_below(tally, (1, 99), (1, 0)), True)
        self.assertIs(is_below(tally, (2, 0), (1, 99)), False)
        self.assertIs(greatest_holds(tally, 1, ("greatest", "1", (((1, 0),), ((2, 0),)))), True)
        self.assertIs(greatest_holds(tally, 1, ("greatest", "1", (((1, 7),), ((2, 0), (2, 1))))), True)
        self.assertIs(lowest_holds(tally, 1, ("lowest", "0", (((1, 10 ** 39),), ((1, 0),)))), True)
        self.assertEqual(highest_rows(times(0, tally), 3), ((0, 0),))
        # led to or not plays no part
        self.assertIs(is_below(USELESS, (0, 1, 9), (0, 0, 0)), False)

    def test_is_below(self):
        self.assertIs(is_below(ONES, (1, 2), (1, 2)), True)
        self.assertIs(is_below(ONES, (1, 2), (1, 3)), True)
        self.assertIs(is_below(ONES, (1, 3), (2, 2)), False)
        self.assertIs(is_below(tally=ONES, one=(2, 2), other=(1, 3)), False)
        self.assertIs(is_below(EMPTY, (), ()), True)
        for tally in COUNTS[::3]:
            rows = sorted(brute_row(tally, ticket) for ticket in brute_roll(tally.digits, 2))
            states = brute_leading(tally)
            for one in rows:
                for other in rows:
                    self.assertIs(is_below(tally, one, other), all(one[state] <= other[state] for state in states))

    def test_papers(self):
        for tally in COUNTS:
            for length in range(longest(tally)):
                paper, other = judge_greatest(tally, length), judge_lowest(tally, length)
                self.assertTrue(is_right(tally, length, paper, "greatest"), (repr(paper), str(tally)))
                self.assertTrue(is_right(tally, length, other, "lowest"), (repr(other), str(tally)))
                self.assertIs(greatest_holds(tally, length, paper), True)
                self.assertIs(lowest_holds(tally, length, other), True)
                self.assertIs(greatest_holds(tally, length, other), False)
                self.assertIs(lowest_holds(tally, length, paper), False)
                self.assertIs(greatest_holds(tally, length + 1, paper), False)

    def test_without_states_one_digit_and_length_0(self):
        for tally in (EMPTY, nought("01")):
            self.assertEqual(judge_greatest(tally, 2), ("greatest", "00", (((),), ((),), ((),))))
            self.assertEqual((greatest(tally, 2), lowest(tally, 2), highest_rows(tally, 2)), (0, 0, ((),)))
            self.assertIs(lowest_holds(tally, 1, ("lowest", "1", (((),), ((),)))), True)
            self.assertIs(lowest_holds(tally, 1, ("lowest", "1", (((),), ()))), False)
            self.assertIs(lowest_holds(tally, 1, ("lowest", "1", ((), ((),)))), False)
        self.assertEqual((greatest(TWOS, 30), lowest(TWOS, 30), greatest_ticket(TWOS, 30)), (2 ** 30, 2 ** 30, "0" * 30))
        self.assertEqual(greatests(EVEN, 4), (1, 0, 1, 0))
        self.assertEqual((greatest(ONE, 0), greatest_ticket(ONE, 0), lowest_ticket(ONE, 0)), (1, "", ""))
        self.assertEqual(judge_lowest(ONES, 0), ("lowest", "", (((1, 0),),)))
        self.assertEqual((highest_rows(VALUE, 0), lowest_rows(VALUE, 0)), (((1, 0),),) * 2)

    def test_papers_by_another_hand(self):
        for layers in ((((1, 0),), ((1, 0), (1, 1)), ((1, 0), (1, 1), (1, 2))), (((1, 0),), ((1, 1),), ((0, 2), (1, 2))),
                       (((0, 0), (1, 0)), ((1, 1),), ((1, 2),))):
            self.assertIs(greatest_holds(ONES, 2, ("greatest", "11", layers)), True)
        for layers in ((((1, 0),), ((1, 1),), ((1, 3),)), (((1, 0),), ((1, 0),), ((1, 2),)), (((0, 0),), ((1, 1),), ((1, 2),)),
                       (((1, 0),), ((1, 1),)), (((1, 0),), ((1, 1),), ((1, 2),), ((1, 3),)), (((1, 0),), ((1, 1),), ()),
                       (((1, 0),), ((1, 1),), ((1, 2), (0, 2))), (((1, 0),), ((1, 1),), ((1, 2), (1, 2))), (((1, 0),), ((1, 1),), ((0, 2),)),
                       [((1, 0),), ((1, 1),), ((1, 2),)], (((1, 0),), [(1, 1)], ((1, 2),)), (((1, 0),), ([1, 1],), ((1, 2),)),
                       (((1, False),), ((1, 1),), ((1, 2),)), (((-1, 0), (1, 0)), ((1, 1),), ((1, 2),)), (((1, 0),), ((1, 1),), ((1, 2, 0),)),
                       (((1, 0),), ((1, 1),), ((1,),)), None, ((1, 0), (1, 1), (1, 2))):
            self.assertIs(greatest_holds(ONES, 2, ("greatest", "11", layers)), False, repr(layers))
        layers = (((1, 0),), ((1, 1),), ((1, 2),))
        for ticket in ("01", "1", "111", "12", None, 11, ("1", "1")):
            self.assertIs(greatest_holds(ONES, 2, ("greatest", ticket, layers)), False)
        self.assertIs(lowest_holds(ONES, 2, ("lowest", "00", (((1, 0),), ((1, 0),), ((0, 0),)))), True)
        self.assertIs(lowest_holds(ONES, 2, ("lowest", "00", (((0, 0),), ((0, 0),), ((0, 0),)))), True)
        self.assertIs(lowest_holds(ONES, 2, ("lowest", "00", (((2, 0),), ((1, 0),), ((0, 0),)))), False)
        self.assertIs(lowest_holds(ONES, 2, ("lowest", "01", (((0, 0),), ((0, 0),), ((0, 0),)))), False)
        # a greatest ticket need not be the first one
        self.assertIs(greatest_holds(BOTH, 1, ("greatest", "1", (((1, 1),), ((1, 2), (2, 1))))), True)

    def test_papers_with_something_otherwise(self):
        chance = random.Random(53)
        found = set()
        for tally in COUNTS[::2]:
            for length in range(4):
                for word, judge, check in (("greatest", judge_greatest, greatest_holds), ("lowest", judge_lowest, lowest_holds)):
                    paper = judge(tally, length)
                    for _ in range(4):
                        thing = spoiled(paper, chance)
                        right = is_right(tally, length, thing, word)
                        found.add((right, word))
                        self.assertIs(check(tally, length, thing), right, (repr(thing), str(tally)))
        self.assertEqual(len(found), 4)

    def test_any_value(self):
        for tally in (ONES, PAIRS, ONE):
            for length in (0, 1, 2):
                for thing in ODDITIES + (("greatest", "1" * length, (tuple((k, k) for k in range(900)),) * (length + 1)),
                                         ["greatest", "11", (((1, 0),), ((1, 1),), ((1, 2),))], ("Greatest", "", (((1, 0),),)),
                                         ("lowest", "", (((1, 0),), ())), ("greatest", "", (((1, 0),),), ())):
                    self.assertIs(greatest_holds(tally, length, thing), False, repr(thing)[:60])
                    self.assertIs(lowest_holds(tally, length, thing), False, repr(thing)[:60])

    def test_by_name(self):
        self.assertEqual((greatest(tally=ONES, length=2), lowest(tally=ONES, length=2), greatest_ticket(tally=ONES, length=2),
                          lowest_ticket(tally=ONES, length=2), lowests(tally=ONES, many=2)), (2, 0, "11", "00", (0, 0)))
        self.assertEqual((highest_rows(tally=ONES, length=1), lowest_rows(tally=ONES, length=1)), (((1, 1),), ((1, 0),)))
        self.assertIs(greatest_holds(tally=ONES, length=2, thing=judge_greatest(tally=ONES, length=2)), True)
        self.assertIs(lowest_holds(tally=ONES, length=2, thing=judge_lowest(tally=ONES, length=2)), True)

    def test_the_greatest_sizes(self):
        self.assertEqual(len(highest_rows(TRIPLES, 22)), 276)
        self.assertEqual(len(lowest_rows(TRIPLES, 22)), 276)
        paper = judge_lowest(TRIPLES, 22)
        self.assertEqual(paper[1], "0" * 8 + "1" * 7 + "2" * 7)
        self.assertEqual(lowest(TRIPLES, 22), 2 ** 8 + 2 * 2 ** 7)
        self.assertIs(lowest_holds(TRIPLES, 22, paper), True)
        self.assertEqual(judge_greatest(TRIPLES, 22)[1], "0" * 22)
        # one highest row alone, but unlike worths of parts for each ticket
        self.assertEqual((greatest_ticket(EVENLY, 30), lowest_ticket(EVENLY, 30)), ("0" * 30,) * 2)
        self.assertEqual((greatest(SHARES, 30), greatest_ticket(SHARES, 30), lowest_ticket(SHARES, 30)),
                         (2 ** 30, "0" * 30, "0" * 30))
        for tally in (BOTH, PAIRS, VALUE, LENGTH, CROSSED, multiplied(multiplied(ONES, ZEROS), PAIRS), times(9, BOTH)):
            for judge, check in ((judge_greatest, greatest_holds), (judge_lowest, lowest_holds)):
                self.assertIs(check(tally, 30, judge(tally, 30)), True)
        self.assertEqual(greatest_ticket(CROSSED, 30), "0" * 15 + "1" * 15)
        self.assertEqual(greatest(CROSSED, 29), 14 * 15)
        self.assertEqual(greatest_ticket(CROSSED, 29), "0" * 15 + "1" * 14)


class FrontsTest(unittest.TestCase):
    def test_fronts_of_rows(self):
        chance = random.Random(3)
        for width in range(5):
            for most in (1, 3, 10 ** 30):
                rows = [tuple(chance.randint(0, most) for _ in range(width)) for _ in range(30)]
                others = [tuple(chance.randint(0, most) for _ in range(width)) for _ in range(4)]
                for upper in (True, False):
                    def is_let(row, tops):
                        return any(all_less(row, top) if upper else all_less(top, row) for top in tops)
                    self.assertEqual(front_of(rows, upper), tuple(sorted({
                        row for row in rows if not is_let(row, [other for other in rows if other != row])})))
                    for row in rows:
                        self.assertIs(are_covered([row], others, upper), is_let(row, others))
                    self.assertIs(are_covered(rows, others, upper), all(is_let(row, others) for row in rows))
