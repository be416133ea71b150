import unittest

from tallyhouse.errors import DoesDouble
from tallyhouse.making import added, lone, met, multiplied, turned
from tallyhouse.powers import degree, levels_of, raised, rises
from tallyhouse.tallies import Tally
from tallyhouse.useful import ways
from tests.growth_samples import (CHAIN, COUNTS, CROSSED, GREAT, ROUNDS, ROW, SPLIT, USELESS, brute_degree,
                                  brute_doubling, brute_levels, brute_rises)
from tests.samples import EMPTY, EVEN, LENGTH, ONE, ONES, TWOS, VALUE, ZEROS, brute_roll, made_up_count


class RisesTest(unittest.TestCase):
    def test_examples(self):
        self.assertEqual(rises(ONES), ((0, 1),))
        self.assertEqual((degree(ONES), degree(TWOS), degree(EVEN)), (1, None, 0))
        self.assertEqual(levels_of(ONES), ((0, 0), (1, 1)))
        self.assertEqual(raised(("power", ((0, 0), (1, 1)), (("", 0, "1", 1),), ""), 3), "111")
        self.assertEqual(ONES.worth("111"), 3)
        squares = multiplied(ONES, ONES)
        self.assertEqual((degree(squares), degree(turned(squares))), (2, 2))

    def test_rises(self):
        for tally in COUNTS:
            self.assertEqual(rises(tally), brute_rises(tally), str(tally))

    def test_known_rises(self):
        self.assertEqual(rises(EMPTY), ())
        self.assertEqual(rises(LENGTH), ((0, 1),))
        self.assertEqual(rises(CROSSED), ((0, 1), (0, 2), (1, 2)))
        # in a row by one digit: also those over several states
        self.assertEqual(rises(ROW), ((0, 1), (0, 2), (0, 3), (1, 2), (1, 3), (2, 3)))
        self.assertEqual(rises(CHAIN), ((0, 1), (2, 3)))
        self.assertEqual(rises(USELESS), ())
        # of two digits, none of which leads from each of the two to itself
        self.assertEqual(rises(ROUNDS), ((0, 2), (1, 3)))
        # counts that double have rises, too
        self.assertEqual(rises(SPLIT), ((1, 2), (2, 1)))
        self.assertEqual(rises(VALUE), ((0, 1),))
        self.assertEqual(rises(Tally("0", (1, 0), (((1, 1), (1, 1)),), (1, 1))), ((0, 1), (1, 0)))
        # each comes back to itself, but never by the same ticket
        self.assertEqual(rises(Tally("01", (1, 0), (((1, 1), (0, 0)), ((0, 0), (0, 1))), (1, 1))), ())

    def test_degree(self):
        seen = set()
        for tally in COUNTS:
            found = degree(tally)
            self.assertEqual(found, brute_degree(tally), str(tally))
            seen.add(found)
        self.assertTrue({None, 0, 1, 2, 3} <= seen)

    def test_known_degrees(self):
        self.assertEqual([degree(tally) for tally in (EMPTY, ONE, LENGTH, CROSSED, ROW, CHAIN, ROUNDS, VALUE, SPLIT, USELESS)],
                         [0, 0, 1, 2, 3, 2, 1, None, None, 0])
        self.assertEqual(degree(lone("01", "0101")), 0)
        # of a chain of rises, though nothing is worth so much at once: one half behind the other
        self.assertEqual(degree(met(ONE, ONE)), 1)
        self.assertEqual(degree(added(ROW, CROSSED)), 3)
        self.assertEqual(degree(multiplied(ONES, ZEROS)), 2)

    def test_worths_grow_no_more(self):
        for tally in COUNTS:
            power = degree(tally)
            if power is None:
                continue
            worths = [max(tally.worth(ticket) for ticket in brute_roll(tally.digits, length)) for length in range(8)]
            most = max(max(worths[:5]), 1)
            self.assertTrue(all(worth <= 2 * most * 8 ** power * max(length, 1) ** power for length, worth in enumerate(worths)))

    def test_the_greatest_sizes(self):
        self.assertEqual([degree(tally) for tally in GREAT], [2, 2, 3, 5, 6, 3, 4, None, 3])
        row = tuple(tuple(int(q >= p) for q in range(9)) for p in range(9))
        tally = Tally("0", (1,) + (0,) * 8, (row,), (0,) * 8 + (1,))
        self.assertEqual((degree(tally), len(rises(tally))), (8, 36))
        self.assertEqual(levels_of(tally), tuple((k, k) for k in range(9)))
        for seed in range(6):
            tally = made_up_count(seed, "012", 9, 1, 0.5 + seed % 3 * 0.2)
            self.assertEqual(degree(tally=tally) is None, len(brute_doubling_of(tally)) > 0)


def brute_doubling_of(tally):
    """By two ways that are led on together, from each state to itself."""
    size = len(tally)
    found = []
    for state in range(size):
        seen = {(state, state, False)}
        waiting = list(seen)
        while waiting:
            p, q, parted = waiting.pop()
            for table in tally.tables:
                for one in range(size):
                    for other in range(size):
                        if table[p][one] and table[q][other]:
                            kinds = {parted or p != q or one != other}
                            if table[p][one] > 1:
                                kinds.add(True)
                            for kind in kinds:
                                if (one, other, kind) not in seen:
                                    seen.add((one, other, kind))
                                    waiting.append((one, other, kind))
        if (state, state, True) in seen:
            found.append(state)
    reach = {k for k in range(size) if tally.start[k]}
    back = {k for k in range(size) if tally.ends[k]}
    for _ in range(size):
        reach |= {q for table in tally.tables for p in reach for q in range(size) if table[p][q]}
        back |= {p for table in tally.tables for p in range(size) for q in back if table[p][q]}
    return [state for state in found if state in reach & back]


class LevelsTest(unittest.TestCase):
    def test_least_levels(self):
        for tally in COUNTS:
            if brute_doubling(tally):
                with self.assertRaises(DoesDouble) as caught:
                    levels_of(tally)
                word, ahead, state, loop, behind = caught.exception.paper
                self.assertEqual(word, "doubles")
                self.assertTrue(loop != "" and ways(tally, loop, state, state) >= 2 and tally.row(ahead)[state] > 0)
                self.assertTrue(any(tally.ends[q] and ways(tally, behind, state, q) for q in range(len(tally))))
            else:
                self.assertEqual(levels_of(tally), brute_levels(tally), str(tally))

    def test_known_levels(self):
        self.assertEqual(levels_of(EMPTY), ())
        self.assertEqual(levels_of(USELESS), ((0, 0),))
        self.assertEqual(levels_of(CROSSED), ((0, 0), (1, 1), (2, 2)))
        self.assertEqual(levels_of(CHAIN), ((0, 0), (1, 1), (2, 1), (3, 2)))
        self.assertEqual(levels_of(tally=ROUNDS), ((0, 0), (1, 0), (2, 1), (3, 1)))
        # a state that no rise leads to stays at 0, though it is behind others
        self.assertEqual(levels_of(Tally("0", (1, 1, 0), (((1, 1, 0), (0, 1, 1), (0, 0, 0)),), (0, 1, 1))),
                         ((0, 0), (1, 1), (2, 1)))

    def test_raised(self):
        paper = ("power", ((0, 0), (1, 1), (2, 2)), (("1", 0, "0", 1), ("01", 1, "11", 2)), "10")
        self.assertEqual(raised(paper, 0), "1" + "01" + "10")
        self.assertEqual(raised(paper=paper, times=2), "1" + "00" + "01" + "1111" + "10")
        self.assertEqual(raised(("power", ((0, 0),), (), ""), 40), "")
