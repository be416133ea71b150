import random
import unittest

from tallyhouse.rewriters import Rewriter, exchanged, joined, kept, one_ahead, up_to
from tallyhouse.singles import first_doubled, is_single, judge_single, single_holds
from tests.samples import ODDITIES, TWICE, brute_tickets, made_up_rewriter, spoiled
from tests.test_rewriters import STILL, brute_ways

MADE_UP = [made_up_rewriter(seed, "01", "12", seed % 2 + 1, 2 + seed % 4) for seed in range(60)]


def is_right(rewriter, thing):
    """Whether a paper is right, by the words of the document."""
    if type(thing) is not tuple or len(thing) != 2 or type(thing[0]) is not str:
        return False
    if thing[0] == "two":
        return (type(thing[1]) is str and all(sign in rewriter.digits for sign in thing[1])
                and len(brute_ways(rewriter, thing[1])) >= 2)
    if thing[0] != "single" or type(thing[1]) is not tuple:
        return False
    for triple in thing[1]:
        if type(triple) is not tuple or [type(part) for part in triple] != [int, int, bool]:
            return False
        if not all(0 <= state < rewriter.size for state in triple[:2]):
            return False
    if list(thing[1]) != sorted(set(thing[1])) or (0, 0, False) not in thing[1]:
        return False
    for s, t, parted in thing[1]:
        if parted and s in rewriter.ends and t in rewriter.ends:
            return False
        for one in rewriter.moves:
            for other in rewriter.moves:
                if one[0] == s and other[0] == t and one[1] == other[1]:
                    if (one[3], other[3], parted or one != other) not in thing[1]:
                        return False
    return True


class SinglesTest(unittest.TestCase):
    def test_examples(self):
        self.assertEqual(judge_single(TWICE), ("two", "0"))
        self.assertEqual(first_doubled(TWICE), "0")
        self.assertIs(is_single(TWICE), False)

    def test_against_all_ways(self):
        kinds = set()
        for rewriter in MADE_UP:
            longest = rewriter.size * (rewriter.size + 1) - 1
            doubled = [ticket for ticket in brute_tickets("01", longest) if len(brute_ways(rewriter, ticket)) > 1]
            first = doubled[0] if doubled else None
            self.assertEqual(first_doubled(rewriter), first)
            self.assertIs(is_single(rewriter), first is None)
            paper = judge_single(rewriter)
            kinds.add((paper[0], first is not None and len(first) > 1))
            self.assertTrue(is_right(rewriter, paper))
            self.assertIs(single_holds(rewriter, paper), True)
            if first is not None:
                self.assertEqual(paper, ("two", first))
        self.assertEqual(kinds, {("single", False), ("two", False), ("two", True)})

    def test_known_ones(self):
        for digits in ("0", "01", "0123"):
            for rewriter in (kept(digits), one_ahead(digits), exchanged(one_ahead(digits)), joined(kept(digits), kept(digits))):
                self.assertIs(is_single(rewriter), True)
                self.assertEqual(judge_single(rewriter)[0], "single")
        self.assertEqual(judge_single(up_to("012")), ("two", "1"))
        self.assertIs(is_single(up_to("3")), True)

    def test_first_in_order(self):
        # the shorter one is ahead, of one length the lesser one, whichever states lead there
        moves = ((0, "0", "0", 2), (0, "1", "0", 1), (1, "0", "0", 3), (1, "0", "1", 3), (2, "1", "0", 3), (2, "1", "1", 3))
        self.assertEqual(judge_single(Rewriter("01", "01", 4, moves, (3,))), ("two", "01"))
        moves = ((0, "0", "0", 1), (0, "0", "0", 2), (1, "1", "0", 3), (1, "1", "1", 3), (2, "0", "0", 3), (2, "0", "1", 3))
        self.assertEqual(judge_single(Rewriter("01", "01", 4, moves, (3,))), ("two", "00"))

    def test_a_late_one(self):
        # two rounds of three and of four states: both are at an end behind twelve digits
        moves = [(0, "0", "0", 1), (1, "0", "0", 2), (2, "0", "0", 0)]
        rounds = moves + [(0, "0", "0", 3), (3, "0", "0", 4), (4, "0", "0", 5), (5, "0", "0", 6), (6, "0", "0", 3)]
        rewriter = Rewriter("0", "0", 7, tuple(sorted(rounds)), (2, 6))
        first = min(k for k in range(50) if rewriter.ways("0" * k) > 1)
        self.assertEqual(judge_single(rewriter), ("two", "0" * first))
        self.assertEqual(first, 8)

    def test_without_moves_or_ends(self):
        for rewriter in (STILL, Rewriter("0", "0", 1, (), (0,)), Rewriter("0", "01", 1, TWICE.moves, ())):
            self.assertIs(is_single(rewriter), True)
            self.assertIsNone(first_doubled(rewriter))
            self.assertIs(single_holds(rewriter, judge_single(rewriter)), True)
        self.assertEqual(judge_single(STILL), ("single", ((0, 0, False),)))

    def test_papers_by_another_hand(self):
        self.assertIs(single_holds(TWICE, ("two", "0" * 700)), True)
        self.assertIs(single_holds(TWICE, ("two", "")), False)
        self.assertIs(single_holds(TWICE, ("single", ((0, 0, False), (0, 0, True)))), False)
        self.assertIs(single_holds(TWICE, ("single", ((0, 0, False),))), False)
        two = Rewriter("0", "0", 3, ((0, "0", "0", 0),), (0, 1))
        for items in (((0, 0, False),), ((0, 0, False), (0, 1, False), (2, 2, True)), ((0, 0, False), (1, 2, True)),
                      ((0, 0, False), (2, 0, True), (2, 1, False))):
            self.assertIs(single_holds(two, ("single", items)), True)
        for items in ((), ((0, 0, True),), ((0, 0, False), (0, 0, True)), ((0, 0, False), (1, 1, True)),
                      ((0, 0, False), (0, 1, True)), ((0, 1, False), (0, 0, False)), ((0, 0, False), (0, 0, False)),
                      ((0, 0, False), (0, 3, False)), ((0, 0, False), (-1, 0, False)), [(0, 0, False)],
                      ((0, 0, 0),), ((0, False, False),), ((0, 0, False), (1, 0)), ((0, 0, False), None),
                      ([0, 0, False],), ((0, 0, False), (2, 2, None))):
            self.assertIs(single_holds(two, ("single", items)), False, repr(items))

    def test_any_value(self):
        for rewriter in (TWICE, STILL, kept("01")):
            for thing in ODDITIES + (("two",), ("two", None), ("two", "x"), ("two", ("0",)), ["two", "0"], ("Two", "0"),
                                     ("two", "0", ()), ("single", None), ("single", ()), ("single", "0"), ("single",)):
                self.assertIs(single_holds(rewriter, thing), False, repr(thing))

    def test_papers_with_something_otherwise(self):
        chance = random.Random(31)
        found = set()
        for rewriter in MADE_UP:
            for _ in range(30):
                thing = spoiled(judge_single(rewriter), chance)
                right = is_right(rewriter, thing)
                found.add(right)
                self.assertIs(single_holds(rewriter, thing), right, repr(thing))
        self.assertEqual(found, {True, False})

    def test_the_greatest_sizes(self):
        one = made_up_rewriter(1, "012", "012", 4, 24)
        for rewriter in (joined(one, one), joined(joined(one_ahead("012"), one_ahead("012")), one)):
            self.assertIs(single_holds(rewriter, judge_single(rewriter)), True)

    def test_by_name(self):
        self.assertIs(is_single(rewriter=TWICE), False)
        self.assertEqual(first_doubled(rewriter=TWICE), "0")
        self.assertEqual(judge_single(rewriter=TWICE), ("two", "0"))
        self.assertIs(single_holds(rewriter=TWICE, thing=("two", "0")), True)
