import unittest

from tallyhouse.doubling import does_double, doubled, doubling_paper, doubling_states
from tallyhouse.making import added, lone, met, multiplied, times
from tallyhouse.tallies import Tally
from tallyhouse.useful import useful_states, ways
from tests.growth_samples import CHAIN, COUNTS, CROSSED, GREAT, ROUNDS, ROW, SPLIT, USELESS, brute_doubling
from tests.samples import EMPTY, EVEN, ONES, TWOS, VALUE, made_up_count


class DoublingTest(unittest.TestCase):
    def test_examples(self):
        self.assertEqual(doubled(("doubles", "", 0, "0", ""), 4), "0000")
        self.assertEqual(TWOS.worth("0000"), 16)
        self.assertIs(does_double(TWOS), True)
        self.assertIs(does_double(EVEN), False)

    def test_doubling_states(self):
        seen = set()
        for tally in COUNTS:
            found = doubling_states(tally)
            self.assertEqual(found, brute_doubling(tally), str(tally))
            self.assertIs(does_double(tally), len(found) > 0)
            seen.add(len(found))
        self.assertTrue({0, 1, 2, 3} <= seen)

    def test_known_ones(self):
        self.assertEqual(doubling_states(VALUE), (1,))
        self.assertEqual(doubling_states(EMPTY), ())
        self.assertEqual(doubling_states(USELESS), ())
        self.assertEqual(doubling_states(SPLIT), (0, 1, 2))
        self.assertEqual(doubling_states(ROW), ())
        self.assertEqual(doubling_states(times(9, ONES)), ())
        # two states to each other and to themselves: each doubles by two digits
        self.assertEqual(doubling_states(Tally("0", (1, 0), (((1, 1), (1, 0)),), (0, 1))), (0, 1))
        # two ways to a state behind, but none to itself
        self.assertEqual(doubling_states(Tally("0", (1, 0), (((1, 9), (0, 1)),), (0, 1))), ())
        # both ways are one, from two starts
        self.assertEqual(doubling_states(Tally("0", (1, 1), (((1, 0), (1, 0)),), (1, 0))), ())

    def test_doubled(self):
        self.assertEqual(doubled(("doubles", "2", 1, "01", "0"), 0), "20")
        self.assertEqual(doubled(paper=("doubles", "2", 1, "01", "0"), times=3), "20101010")
        for tally in COUNTS + GREAT:
            paper = doubling_paper(tally)
            if paper is None:
                continue
            for many in (0, 1, 2, 7, 40):
                self.assertGreaterEqual(tally.worth(doubled(paper, many)), 2 ** many)

    def test_papers_that_are_made(self):
        for tally in COUNTS + GREAT:
            paper = doubling_paper(tally)
            self.assertEqual(paper is None, not does_double(tally))
            if paper is not None:
                word, ahead, state, loop, behind = paper
                self.assertIn(state, useful_states(tally))
                self.assertTrue(loop != "" and ways(tally, loop, state, state) >= 2)
                self.assertGreater(tally.row(ahead)[state], 0)
                self.assertTrue(any(tally.ends[q] and ways(tally, behind, state, q) for q in range(len(tally))))

    def test_the_greatest_sizes(self):
        self.assertEqual([does_double(tally) for tally in (GREAT[2], added(CROSSED, VALUE), met(ROW, SPLIT))],
                         [False, True, True])
        for seed in range(6):
            tally = made_up_count(seed, "012", 9, 1, 0.5 + seed % 3 * 0.2)
            self.assertIs(does_double(tally=tally), len(doubling_states(tally=tally)) > 0)
        # late: both rounds, of four and of five states, come back together by twenty digits
        rounds = [[0] * 9 for _ in range(9)]
        for k in range(4):
            rounds[k][(k + 1) % 4] = 1
        for k in range(4, 9):
            rounds[k][k + 1 if k < 8 else 4] = 1
        self.assertIs(does_double(Tally("0", (1,) + (0,) * 8, (tuple(map(tuple, rounds)),), (1,) * 9)), False)
        rounds[3][4] = rounds[8][0] = 1
        tally = Tally("0", (1,) + (0,) * 8, (tuple(map(tuple, rounds)),), (1,) * 9)
        self.assertEqual(doubling_states(tally), tuple(range(9)))
        self.assertEqual(doubling_states(multiplied(lone("0", "00"), TWOS)), ())
        self.assertEqual(doubling_states(CHAIN) + doubling_states(ROUNDS), ())
