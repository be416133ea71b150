import random
import unittest

from tallyhouse.bounds import is_bounded
from tallyhouse.doubling import doubled
from tallyhouse.growthpapers import growth_holds, grows_more, judge_growth
from tallyhouse.leasts import rank
from tallyhouse.making import multiplied, turned
from tallyhouse.powers import levels_of, raised
from tallyhouse.tallies import Tally
from tests.growth_samples import (CHAIN, COUNTS, CROSSED, GREAT, ROUNDS, ROW, SPLIT, USELESS, are_right_levels,
                                  brute_degree, brute_doubling, brute_useful)
from tests.samples import (EMPTY, EVEN, LENGTH, ODDITIES, ONE, ONES, PAIRS, TWOS, VALUE, ZEROS, brute_roll,
                           made_up_count, spoiled)


def is_ticket(tally, thing):
    return type(thing) is str and all(sign in tally.digits for sign in thing)


def leads_to_end(tally, state, ticket):
    return any(number and end for number, end in zip(tally.table(ticket)[state], tally.ends))


def is_right_piece(tally, piece, last, useful):
    """Whether a value is a piece whose first ticket leads from the last state (from the start if it is None)."""
    if type(piece) is not tuple or len(piece) != 4 or [type(part) for part in piece] != [str, int, str, int]:
        return False
    ahead, p, loop, q = piece
    if not is_ticket(tally, ahead) or not is_ticket(tally, loop) or not loop:
        return False
    if p not in useful or q not in useful or p == q:
        return False
    row = tally.row(ahead) if last is None else tally.table(ahead)[last]
    table = tally.table(loop)
    return min(row[p], table[p][p], table[p][q], table[q][q]) > 0


def is_right(tally, thing):
    """Whether a paper is right, by the words of the document."""
    if type(thing) is not tuple or not thing or type(thing[0]) is not str:
        return False
    if thing[0] == "doubles":
        if len(thing) != 5 or not all(is_ticket(tally, thing[k]) for k in (1, 3, 4)) or type(thing[2]) is not int:
            return False
        word, ahead, state, loop, behind = thing
        return (0 <= state < len(tally) and tally.row(ahead)[state] > 0 and loop != ""
                and tally.table(loop)[state][state] >= 2 and leads_to_end(tally, state, behind))
    if thing[0] != "power" or len(thing) != 4 or brute_doubling(tally):
        return False
    word, pairs, chain, behind = thing
    useful = brute_useful(tally)
    if type(pairs) is not tuple or type(chain) is not tuple or not is_ticket(tally, behind):
        return False
    if not all(type(pair) is tuple and [type(part) for part in pair] == [int, int] for pair in pairs):
        return False
    levels = dict(pairs)
    if tuple(state for state, level in pairs) != useful or min(levels.values(), default=0) < 0:
        return False
    if not are_right_levels(tally, levels) or len(chain) != max(levels.values(), default=0):
        return False
    last = None
    for piece in chain:
        if not is_right_piece(tally, piece, last, useful):
            return False
        last = piece[3]
    return behind == "" if last is None else leads_to_end(tally, last, behind)


class GrowthTest(unittest.TestCase):
    def test_examples(self):
        paper = ("power", ((0, 0), (1, 1)), (("", 0, "1", 1),), "")
        self.assertIs(growth_holds(ONES, paper), True)
        self.assertEqual(ONES.worth(raised(paper, 3)), 3)
        self.assertIs(growth_holds(TWOS, ("doubles", "", 0, "0", "")), True)
        self.assertEqual(judge_growth(TWOS)[0], "doubles")
        self.assertEqual(TWOS.worth(doubled(judge_growth(TWOS), 4)) >= 16, True)
        self.assertEqual(judge_growth(EVEN), ("power", ((0, 0), (1, 0)), (), ""))

    def test_papers(self):
        kinds = set()
        for tally in COUNTS:
            paper = judge_growth(tally)
            kinds.add((paper[0], len(paper[2]) if paper[0] == "power" else 0))
            self.assertTrue(is_right(tally, paper), (repr(paper), str(tally)))
            self.assertIs(growth_holds(tally, paper), True)
            power = brute_degree(tally)
            self.assertEqual(paper[0], "doubles" if power is None else "power")
            if power is not None:
                self.assertEqual(len(paper[2]), power)
        self.assertTrue({("doubles", 0), ("power", 0), ("power", 1), ("power", 2), ("power", 3)} <= kinds)

    def test_what_papers_tell(self):
        for tally in COUNTS + GREAT:
            paper = judge_growth(tally)
            for many in (0, 1, 2, 3, 10, 40):
                if paper[0] == "doubles":
                    self.assertGreaterEqual(tally.worth(doubled(paper, many)), 2 ** many)
                elif paper[2]:
                    self.assertGreaterEqual(tally.worth(raised(paper, many)), many ** len(paper[2]))

    def test_bounded_exactly_if_it_does_not_grow(self):
        seen = set()
        for tally in COUNTS:
            if rank(tally) <= 4:
                bounded = brute_degree(tally) == 0
                seen.add(bounded)
                self.assertIs(is_bounded(tally), bounded)
                if bounded:
                    most = [max(tally.worth(ticket) for ticket in brute_roll(tally.digits, length)) for length in range(8)]
                    self.assertLessEqual(max(most[6:]), max(most[:7]))
        self.assertEqual(seen, {True, False})

    def test_papers_by_another_hand(self):
        for paper in (("power", ((0, 0), (1, 1)), (("0", 0, "0101", 1),), "0"),
                      ("power", ((0, 0), (1, 1)), (("1" * 2000, 0, "1" * 2000, 1),), "1" * 2000)):
            self.assertIs(growth_holds(ONES, paper), True)
        for paper in (("power", ((0, 1), (1, 2)), (("", 0, "1", 1),), ""), ("power", ((0, 0), (1, 0)), (), ""),
                      ("power", ((0, 0), (1, 2)), (("", 0, "1", 1), ("", 0, "1", 1)), ""),
                      ("power", ((0, 1), (1, 1)), (("", 0, "1", 1),), ""), ("power", ((0, 0), (1, 1)), (), ""),
                      ("power", ((0, 0), (1, 1)), (("", 0, "0", 1),), ""), ("power", ((0, 0), (1, 1)), (("", 0, "", 1),), ""),
                      ("power", ((0, 0), (1, 1)), (("", 0, "1", 0),), ""), ("power", ((0, 0), (1, 1)), (("", 1, "1", 0),), ""),
                      ("power", ((1, 1), (0, 0)), (("", 0, "1", 1),), ""), ("power", ((0, 0),), (), ""),
                      ("power", ((0, 0), (1, 1), (2, 1)), (("", 0, "1", 1),), ""), ("power", ((0, 0), (1, 1)), (("", 0, "1", 1),), "2"),
                      ("power", ((0, 0), (1, 1)), (("", False, "1", True),), ""), ("power", ((0, False), (1, True)), (("", 0, "1", 1),), ""),
                      ("power", ((0, 0), (1, 1)), (["", 0, "1", 1],), ""), ("power", [(0, 0), (1, 1)], (("", 0, "1", 1),), ""),
                      ("power", ((0, 0), (1, 1)), [("", 0, "1", 1)], ""), ("power", ((0, 0), (1, 1)), (("", 0, "1", 1),), None),
                      ("power", ((0, -1), (1, 0)), (), ""), ("power", ((0, 0), (0, 0), (1, 1)), (("", 0, "1", 1),), ""),
                      ("doubles", "", 1, "1", ""), ("power", ((0, 0), (1, 1)), (("", 0, "1", 1),))):
            self.assertIs(growth_holds(ONES, paper), False, repr(paper))

    def test_levels_that_are_not_the_least_ones(self):
        # two states side by side: the one that does not grow may have any level that no other one forbids
        tally = Tally("01", (1, 0, 1), (((1, 0, 0), (0, 1, 0), (0, 0, 1)), ((1, 1, 0), (0, 1, 0), (0, 0, 1))), (0, 1, 1))
        self.assertEqual(levels_of(tally), ((0, 0), (1, 1), (2, 0)))
        for level in (0, 1):
            self.assertIs(growth_holds(tally, ("power", ((0, 0), (1, 1), (2, level)), (("", 0, "1", 1),), "")), True)
        self.assertIs(growth_holds(tally, ("power", ((0, 0), (1, 1), (2, 2)), (("", 0, "1", 1),), "")), False)

    def test_papers_of_counts_that_double(self):
        for paper in (("doubles", "1", 1, "0", ""), ("doubles", "0001", 1, "1", "10"), ("doubles", "1", 1, "0" * 2000, "")):
            self.assertIs(growth_holds(VALUE, paper), True)
        for paper in (("doubles", "", 1, "0", ""), ("doubles", "1", 0, "0", ""), ("doubles", "1", 1, "", ""),
                      ("doubles", "1", 2, "0", ""), ("doubles", "1", -1, "0", ""), ("doubles", "1", True, "0", ""),
                      ("doubles", "1", 1, "2", ""), ("doubles", "1", 1, "0", "", ""), ["doubles", "1", 1, "0", ""],
                      ("power", ((0, 0), (1, 1)), (("", 0, "1", 1),), ""), ("power", ((0, 0), (1, 0)), (), "")):
            self.assertIs(growth_holds(VALUE, paper), False, repr(paper))
        self.assertIs(growth_holds(SPLIT, ("doubles", "", 0, "01", "")), True)
        self.assertIs(growth_holds(SPLIT, ("doubles", "", 0, "0", "")), False)
        self.assertIs(growth_holds(SPLIT, ("doubles", "0", 1, "1010", "1")), True)
        self.assertIs(growth_holds(SPLIT, ("doubles", "0", 1, "10", "1")), False)
        self.assertIs(growth_holds(SPLIT, ("doubles", "0", 1, "1010", "")), False)
        # states that double, but are led to by no ticket, or lead to no end
        self.assertIs(growth_holds(USELESS, ("doubles", "", 1, "0", "")), False)
        self.assertIs(growth_holds(USELESS, ("doubles", "0", 2, "0", "")), False)

    def test_without_useful_states(self):
        for tally in (EMPTY, Tally("0", (1,), (((2,),),), (0,)), Tally("0", (0,), (((2,),),), (1,))):
            self.assertEqual(judge_growth(tally), ("power", (), (), ""))
            self.assertIs(growth_holds(tally, ("power", (), (), "")), True)
            for paper in (("power", (), (), "0"), ("power", ((0, 0),), (), ""), ("doubles", "", 0, "0", ""),
                          ("power", (), (("", 0, "0", 0),), "")):
                self.assertIs(growth_holds(tally, paper), False)

    def test_papers_with_something_otherwise(self):
        chance = random.Random(37)
        found = set()
        for tally in COUNTS[::2]:
            paper = judge_growth(tally)
            for _ in range(10):
                thing = spoiled(paper, chance)
                right = is_right(tally, thing)
                found.add((right, paper[0]))
                self.assertIs(growth_holds(tally, thing), right, (repr(thing), str(tally)))
        self.assertEqual(len(found), 4)

    def test_any_value(self):
        for tally in (ONES, VALUE, EMPTY, EVEN):
            for thing in ODDITIES + (("power", tuple((k, 0) for k in range(900)), (), ""), ("Power", (), (), ""),
                                     ("power", (), (), "", ""), ("doubles", "", 10 ** 39, "0", "")):
                self.assertIs(growth_holds(tally, thing), False, repr(thing)[:80])

    def test_grows_more(self):
        order = [ONE, ONES, CROSSED, ROW, VALUE]
        for one, tally in enumerate(order):
            for other, further in enumerate(order):
                self.assertIs(grows_more(tally, further), one > other)
        for tally, further in ((EMPTY, ONE), (TWOS, VALUE), (VALUE, SPLIT), (LENGTH, ZEROS), (CHAIN, CROSSED), (EVEN, USELESS)):
            self.assertIs(grows_more(tally, further), False)
            self.assertIs(grows_more(further, tally), False)
        self.assertIs(grows_more(one=TWOS, other=ONES), True)
        self.assertIs(grows_more(ROUNDS, ONE), True)
        self.assertIs(grows_more(PAIRS, ONES), False)

    def test_by_name(self):
        self.assertIs(growth_holds(tally=EVEN, thing=judge_growth(tally=EVEN)), True)

    def test_the_greatest_sizes(self):
        for tally in GREAT + [multiplied(CROSSED, turned(CROSSED))] + [
                made_up_count(seed, "012", 9, 1, 0.6 + seed % 4 * 0.1) for seed in range(8)]:
            paper = judge_growth(tally)
            self.assertIs(growth_holds(tally, paper), True)
            if paper[0] == "power":
                levels = paper[1][:-1] + ((paper[1][-1][0], paper[1][-1][1] + 1),) if paper[1] else ((0, 0),)
                self.assertIs(growth_holds(tally, ("power", levels, paper[2] + paper[2][:1], paper[3])), False)
