import random
import unittest

from tallyhouse.errors import BadTicket
from tallyhouse.making import lone, met, multiplied, nought
from tallyhouse.pieces import Piece
from tallyhouse.tallies import Tally
from tallyhouse.useful import along, useful_states, ways
from tests.growth_samples import COUNTS, CROSSED, GREAT, USELESS, brute_useful
from tests.samples import EMPTY, ODDITIES, ONES, VALUE, brute_tickets, made_up_tally


class UsefulTest(unittest.TestCase):
    def test_examples(self):
        self.assertEqual(useful_states(ONES), (0, 1))
        found = along(ONES, "1", "01", "")
        self.assertEqual([found.worth("0" * k) for k in range(3)], [1, 2, 3])
        self.assertEqual(ways(ONES, "101", 0, 1), 2)

    def test_useful_states(self):
        for tally in COUNTS:
            self.assertEqual(useful_states(tally), brute_useful(tally), str(tally))

    def test_known_ones(self):
        self.assertEqual(useful_states(EMPTY), ())
        self.assertEqual(useful_states(USELESS), (0,))
        self.assertEqual(useful_states(Tally("0", (1, 0), (((1, 1), (0, 1)),), (0, 0))), ())
        self.assertEqual(useful_states(Tally("0", (0, 0), (((1, 1), (0, 1)),), (1, 1))), ())
        # by the empty ticket alone
        self.assertEqual(useful_states(Tally("0", (1, 1), (((0, 0), (0, 0)),), (1, 0))), (0,))
        self.assertEqual(useful_states(lone("01", "0110")), (0, 1, 2, 3, 4))
        self.assertEqual(useful_states(CROSSED), (0, 1, 2))
        self.assertTrue(all(len(useful_states(tally)) <= len(tally) for tally in GREAT))

    def test_what_is_not_useful_adds_nothing(self):
        for tally in COUNTS:
            useful = useful_states(tally)
            rest = Tally(tally.digits, tuple(number if k in useful else 0 for k, number in enumerate(tally.start)),
                         tuple(tuple(tuple(number if j in useful and k in useful else 0 for j, number in enumerate(row))
                                     for k, row in enumerate(table)) for table in tally.tables), tally.ends)
            for ticket in brute_tickets(tally.digits, 4):
                self.assertEqual(rest.worth(ticket), tally.worth(ticket))

    def test_ways(self):
        for tally in [made_up_tally(seed, "01", 3, -4, 4) for seed in range(8)] + COUNTS[:20]:
            for ticket in brute_tickets(tally.digits, 3) + [tally.digits[-1] * 40]:
                table = tally.table(ticket)
                for state in range(len(tally)):
                    for goal in range(len(tally)):
                        self.assertEqual(ways(tally, ticket, state, goal), table[state][goal])
        self.assertEqual([ways(ONES, "", 0, 0), ways(ONES, "", 0, 1)], [1, 0])
        self.assertEqual(ways(Tally("0", (1,), (((-2,),),), (1,)), "000", 0, 0), -8)
        self.assertEqual(ways(tally=VALUE, ticket="11", state=0, goal=1), 3)

    def test_ways_of_no_tickets(self):
        for thing in ODDITIES + ("2",):
            with self.assertRaises(BadTicket) as caught:
                ways(ONES, thing, 0, 0)
            self.assertIs(caught.exception.ticket, thing)

    def test_along(self):
        chance = random.Random(6)
        for tally in [made_up_tally(seed, "01", seed % 4, -4, 4) for seed in range(12)] + COUNTS[:12]:
            for _ in range(4):
                parts = ["".join(chance.choice(tally.digits) for _ in range(chance.randrange(4))) for _ in range(3)]
                found = along(tally, *parts)
                self.assertEqual(found.digits, "0")
                for k in range(6):
                    self.assertEqual(found.worth("0" * k), tally.worth(parts[0] + parts[1] * k + parts[2]))

    def test_along_edges(self):
        self.assertEqual([along(VALUE, "1", "", "01").worth("0" * k) for k in range(3)], [5, 5, 5])
        self.assertEqual(along(EMPTY, "", "0", "").worth("000"), 0)
        self.assertEqual(along(tally=ONES, ahead="", loop="1" * 40, behind="0" * 40).worth("0" * 40), 1600)
        self.assertEqual(along(nought("59"), "5", "9", "").digits, "0")

    def test_along_no_tickets(self):
        for thing in ODDITIES + ("2", Piece(ONES, "1")):
            for parts in ((thing, "2", None), ("", thing, "2"), ("", "", thing)):
                with self.assertRaises(BadTicket) as caught:
                    along(ONES, *parts)
                self.assertIs(caught.exception.ticket, thing)

    def test_the_greatest_sizes(self):
        for tally in GREAT + [multiplied(USELESS, CROSSED), met(CROSSED, lone("01", "0110"))]:
            self.assertEqual(useful_states(tally), brute_by_steps(tally))


def brute_by_steps(tally):
    """Led to step by step, from the start and from the ends."""
    size = len(tally)
    ahead, behind = {k for k in range(size) if tally.start[k]}, {k for k in range(size) if tally.ends[k]}
    for _ in range(size):
        ahead |= {q for table in tally.tables for p in ahead for q in range(size) if table[p][q]}
        behind |= {p for table in tally.tables for p in range(size) for q in behind if table[p][q]}
    return tuple(sorted(ahead & behind))
