import random
import unittest

from tallyhouse.errors import BadRewriter, BadText, BadTicket, OtherDigits
from tallyhouse.making import nought
from tallyhouse.rewriters import Rewriter, exchanged, joined, kept, one_ahead, through, up_to
from tallyhouse.sames import are_same
from tallyhouse.tallies import Tally
from tests.samples import (EMPTY, ODDITIES, ONES, TWICE, VALUE, brute_roll, brute_tickets, made_up_rewriter,
                           made_up_tally)

STILL = Rewriter("01", "23", 3, (), ())
MADE_UP = [made_up_rewriter(seed, "01", "12", seed % 3 + 1, 3 + seed % 7) for seed in range(24)]


def brute_ways(rewriter, ticket):
    """All ways of a ticket, each as the tuple of its moves."""
    found = [((), 0)]
    for digit in ticket:
        found = [(way + (move,), move[3]) for way, state in found for move in rewriter.moves
                 if move[0] == state and move[1] == digit]
    return [way for way, state in found if state in rewriter.ends]


def brute_rewritings(rewriter, ticket):
    found = {}
    for way in brute_ways(rewriter, ticket):
        other = "".join(move[2] for move in way)
        found[other] = found.get(other, 0) + 1
    return tuple(sorted(found.items()))


class MadeTest(unittest.TestCase):
    def bad(self, part, *values):
        with self.assertRaises(BadRewriter) as caught:
            Rewriter(*values)
        self.assertEqual(caught.exception.part, part, repr(values))

    def test_attributes(self):
        moves = ((0, "0", "3", 1), (1, "1", "2", 0))
        rewriter = Rewriter(digits="01", written="23", size=2, moves=moves, ends=(0, 1))
        self.assertEqual((rewriter.digits, rewriter.written, rewriter.size), ("01", "23", 2))
        self.assertEqual((rewriter.moves, rewriter.ends), (moves, (0, 1)))

    def test_without_moves_or_ends(self):
        self.assertEqual((STILL.moves, STILL.ends), ((), ()))
        self.assertEqual((STILL.ways(""), STILL.ways("01"), STILL.rewritings("")), (0, 0, ()))

    def test_bad_digits_and_written(self):
        for thing in ODDITIES + ("", "10", "00", "0a", ["0"]):
            self.bad("digits", thing, None, None, None, None)
            self.bad("written", "01", thing, None, None, None)

    def test_bad_size(self):
        for thing in (0, -1, None, True, "1", (1,), [1]):
            self.bad("size", "01", "01", thing, None, None)

    def test_bad_moves(self):
        for thing in (None, [], [(0, "0", "2", 0)], ((0, "0", "2"),), ((0, "0", "2", 0, 0),), ([0, "0", "2", 0],),
                      ((2, "0", "2", 0),), ((0, "0", "2", 2),), ((-1, "0", "2", 0),), ((True, "0", "2", 0),),
                      ((0, "0", "2", False),), ((0, "2", "2", 0),), ((0, "0", "0", 0),), ((0, "", "2", 0),),
                      ((0, "01", "2", 0),), ((0, "0", "", 0),), ((0, 0, "2", 0),), ((0, "0", 2, 0),), ((0, "0", "2", "0"),),
                      ((0, "0", "2", 0), (0, "0", "2", 0)), ((0, "1", "2", 0), (0, "0", "2", 0)), (None,), ((),), "move",
                      ((0, "0", "2", 0), (0, "0", "3")), ((1, "0", "2", 0), (0, "0", "2", 0)), {}, ((0, None, "2", 0),)):
            self.bad("moves", "01", "23", 2, thing, None)

    def test_bad_ends(self):
        for thing in (None, [], [0], (0, 0), (1, 0), (2,), (-1,), (True,), ("0",), 0, "0", ((0,),), (None,)):
            self.bad("ends", "01", "23", 2, (), thing)

    def test_the_first_part_is_borne(self):
        self.bad("digits", "10", "10", 0, None, None)
        self.bad("written", "01", "10", 0, None, None)
        self.bad("size", "01", "01", 0, None, None)
        self.bad("moves", "01", "01", 1, None, None)

    def test_equal(self):
        self.assertTrue(TWICE == Rewriter("0", "01", 1, ((0, "0", "0", 0), (0, "0", "1", 0)), (0,)))
        for other in (Rewriter("01", "01", 1, TWICE.moves, (0,)), Rewriter("0", "012", 1, TWICE.moves, (0,)),
                      Rewriter("0", "01", 2, TWICE.moves, (0,)), Rewriter("0", "01", 1, TWICE.moves[:1], (0,)),
                      Rewriter("0", "01", 1, TWICE.moves, ())):
            self.assertFalse(TWICE == other)
            self.assertTrue(TWICE != other)
        for thing in ODDITIES:
            if not isinstance(thing, Rewriter):
                self.assertIs(TWICE == thing, False)

    def test_beyond_the_limits(self):
        moves = tuple((k, "0", "9", 10 ** 40) for k in range(500))
        great = Rewriter("0123456789", "9", 10 ** 40 + 1, moves, tuple(range(400)))
        self.assertEqual(Rewriter.read(str(great)), great)


class TextTest(unittest.TestCase):
    def bad(self, line, text):
        with self.assertRaises(BadText) as caught:
            Rewriter.read(text)
        self.assertEqual(caught.exception.line, line, repr(text))

    def test_texts(self):
        self.assertEqual(str(TWICE), "rewriter 1\nreads 0\nwrites 01\nends 0\nmove 0 0 0 0\nmove 0 0 1 0")
        self.assertEqual(str(STILL), "rewriter 3\nreads 01\nwrites 23\nends")
        self.assertEqual(str(up_to("01")).split("\n")[3], "ends 0 1")

    def test_read_back(self):
        for rewriter in MADE_UP + [TWICE, STILL, up_to("012"), one_ahead("0123456789"), kept("5")]:
            self.assertEqual(Rewriter.read(str(rewriter)), rewriter)
        self.assertEqual(Rewriter.read(text=str(TWICE)), TWICE)

    def test_no_strings(self):
        for thing in ODDITIES + (str(TWICE).split("\n"),):
            if not isinstance(thing, str):
                self.bad(-1, thing)

    def test_wrong_lines(self):
        lines = str(Rewriter("01", "23", 2, ((0, "0", "2", 1), (0, "1", "3", 1), (1, "0", "2", 0)), (0, 1))).split("\n")
        for number, wrongs in enumerate((
                ("", "rewriter", "rewriter 0", "rewriter -1", "rewriter 2 2", "rewriter 02", "rewriter 2 ", "rewriter  2",
                 "Rewriter 2", "rewriter x", " rewriter 2"),
                ("", "reads", "reads 10", "reads 0 1", "reads  01", "reads 01 ", "read 01", "writes 01", "reads 0a"),
                ("", "writes", "writes 32", "writes 2 3", "writes 23 ", "reads 23", "writes 22"),
                ("", "ends 1 0", "ends 0 0", "ends 2", "ends 0 1 2", "ends ", "ends 0 ", "ends  0", "end 0 1", "ends -1",
                 "ends 00", "ends x", "move 0 0 2 1"),
                ("", "move", "move 0 0 2", "move 0 0 2 1 1", "move 2 0 2 1", "move 0 0 2 2", "move 0 2 2 1",
                 "move 0 0 0 1", "move 0 0 2 1 ", "move  0 0 2 1", "moves 0 0 2 1", "move -1 0 2 1", "move 00 0 2 1",
                 "move 0 00 2 1", "move 0 0  1", "move 0 01 2 1", "move x 0 2 1", "0 0 2 1"),
                ("move 0 0 2 1", "move 0 0 2 0", "move 0 1 3 2"),
                ("move 0 1 3 1", "move 0 1 3 0", "move 1 0 2 x", "ends 0"))):
            for wrong in wrongs:
                self.bad(number, "\n".join(lines[:number] + [wrong] + lines[number + 1:]))

    def test_at_odds_with_lines_ahead(self):
        self.bad(3, str(TWICE).replace("ends 0", "ends 1"))
        self.bad(4, str(TWICE).replace("reads 0", "reads 1"))
        self.bad(5, str(TWICE).replace("writes 01", "writes 0"))
        self.assertEqual(Rewriter.read(str(TWICE).replace("rewriter 1", "rewriter 7")).size, 7)

    def test_missing_lines(self):
        lines = str(STILL).split("\n")
        for many in range(1, 4):
            self.bad(many, "\n".join(lines[:many]))
            self.bad(many, "\n".join(lines[:many]) + "\n")
        self.bad(0, "")
        self.bad(4, str(STILL) + "\n")
        self.bad(6, str(TWICE) + "\n")
        self.assertEqual(Rewriter.read("\n".join(str(TWICE).split("\n")[:4])).moves, ())

    def test_spoiled_texts_are_read_strictly(self):
        chance = random.Random(7)
        for _ in range(2000):
            text = str(chance.choice(MADE_UP))
            place = chance.randrange(len(text))
            text = text[:place] + chance.choice(("", " ", "-", "0", "\n", "1", "x")) + text[place + chance.randrange(2):]
            try:
                found = Rewriter.read(text)
            except BadText as error:
                self.assertIn(error.line, range(text.count("\n") + 2))
            else:
                self.assertEqual(str(found), text)


class WaysTest(unittest.TestCase):
    def test_examples(self):
        self.assertEqual(up_to("01").rewritings("10"), (("00", 1), ("01", 1), ("10", 1)))
        self.assertEqual(one_ahead("012").rewritings("100"), (("022", 1),))
        self.assertEqual(one_ahead("012").rewritings("000"), ())
        self.assertEqual(TWICE.ways("000"), 8)

    def test_against_all_ways(self):
        for rewriter in MADE_UP:
            for ticket in brute_tickets("01", 5):
                self.assertEqual(rewriter.ways(ticket), len(brute_ways(rewriter, ticket)))
                self.assertEqual(rewriter.rewritings(ticket), brute_rewritings(rewriter, ticket))

    def test_several_ways_that_write_the_same(self):
        rewriter = Rewriter("0", "5", 3, ((0, "0", "5", 1), (0, "0", "5", 2), (1, "0", "5", 0), (2, "0", "5", 0)), (0,))
        self.assertEqual(rewriter.rewritings("0000"), (("5555", 4),))
        self.assertEqual(rewriter.ways("000"), 0)

    def test_the_empty_ticket(self):
        self.assertEqual((TWICE.ways(""), TWICE.rewritings("")), (1, (("", 1),)))
        not_at_once = Rewriter("0", "0", 2, ((0, "0", "0", 1),), (1,))
        self.assertEqual((not_at_once.ways(""), not_at_once.rewritings("")), (0, ()))

    def test_twelve_digits(self):
        moves = tuple(sorted((s, "0", w, g) for s in range(4) for w in "012" for g in (s, (s + 1) % 4)))
        great = Rewriter("0", "012", 4, moves, (0,))
        self.assertEqual(great.ways("0" * 12), sum(count for _, count in great.rewritings("0" * 12)))
        self.assertEqual(len(great.rewritings("0" * 12)), 3 ** 12)
        self.assertEqual(up_to("012").rewritings("0" * 10 + "21")[-1], ("0" * 10 + "21", 1))
        # no end is come to, though the tickets written on the way are many
        self.assertEqual(Rewriter("0", "012", 4, moves, ()).rewritings("0" * 300), ())

    def test_no_tickets(self):
        for rewriter in (TWICE, Rewriter("0", "3", 1, (), ())):
            for thing in ODDITIES + ("1", "3", "00 "):
                for told in (rewriter.ways, rewriter.rewritings):
                    with self.assertRaises(BadTicket) as caught:
                        told(thing)
                    self.assertIs(caught.exception.ticket, thing)
        self.assertEqual((TWICE.ways(ticket="0"), TWICE.rewritings(ticket="")), (2, (("", 1),)))


class NamedTest(unittest.TestCase):
    def test_kept(self):
        for digits in ("0", "01", "0123456789"):
            rewriter = kept(digits=digits)
            self.assertEqual((rewriter.digits, rewriter.written, rewriter.size), (digits, digits, 1))
            for ticket in ("", digits, digits[-1] * 3):
                self.assertEqual(rewriter.rewritings(ticket), ((ticket, 1),))

    def test_up_to_and_one_ahead(self):
        for digits in ("0", "01", "259"):
            up, down = up_to(digits=digits), one_ahead(digits=digits)
            for rewriter in (up, down):
                self.assertEqual((rewriter.digits, rewriter.written), (digits, digits))
            for length in range(4):
                tickets = brute_roll(digits, length)
                for place, ticket in enumerate(tickets):
                    self.assertEqual(up.rewritings(ticket), tuple((other, 1) for other in tickets[:place + 1]))
                    self.assertEqual(down.rewritings(ticket), tuple((other, 1) for other in tickets[max(place, 1) - 1:place]))

    def test_ten_digits(self):
        self.assertEqual(up_to("0123456789").ways("1234"), 1235)
        self.assertEqual(one_ahead("0123456789").rewritings("1000"), (("0999", 1),))

    def test_exchanged(self):
        for rewriter in MADE_UP:
            other = exchanged(rewriter=rewriter)
            self.assertEqual((other.digits, other.written, other.size), (rewriter.written, rewriter.digits, rewriter.size))
            self.assertEqual(set(other.moves), {(s, b, a, t) for s, a, b, t in rewriter.moves})
            self.assertEqual(other.ends, rewriter.ends)
            self.assertEqual(exchanged(other), rewriter)


class JoinedTest(unittest.TestCase):
    def pairs(self):
        for seed in range(20):
            yield (made_up_rewriter(seed, "01", "12", seed % 3 + 1, 6),
                   made_up_rewriter(seed + 90, "12", "03", seed % 2 + 1, 6))
        yield TWICE, exchanged(TWICE)
        yield TWICE, kept("01")
        yield STILL, Rewriter("23", "0", 1, (), ())

    def test_example(self):
        self.assertEqual(joined(TWICE, exchanged(TWICE)).rewritings("00"), (("00", 4),))

    def test_each_two_tickets(self):
        for one, other in self.pairs():
            rewriter = joined(one, other)
            self.assertEqual((rewriter.digits, rewriter.written), (one.digits, other.written))
            for ticket in brute_tickets(one.digits, 3):
                expected = {}
                for between, count in brute_rewritings(one, ticket):
                    for written, further in brute_rewritings(other, between):
                        expected[written] = expected.get(written, 0) + count * further
                self.assertEqual(rewriter.rewritings(ticket), tuple(sorted(expected.items())))
                self.assertEqual(rewriter.ways(ticket), sum(expected.values()))

    def test_through_the_joined_one(self):
        for seed, (one, other) in enumerate(list(self.pairs())[:8]):
            tally = made_up_tally(seed, other.written, 2)
            self.assertTrue(are_same(through(tally, joined(one, other)), through(through(tally, other), one)))

    def test_other_digits(self):
        for one, other in ((TWICE, TWICE), (kept("01"), kept("0")), (kept("0"), kept("1"))):
            with self.assertRaises(OtherDigits):
                joined(one, other)
        self.assertEqual(joined(one=TWICE, other=kept("01")), joined(TWICE, kept("01")))


class ThroughTest(unittest.TestCase):
    def test_example(self):
        self.assertEqual(through(VALUE, TWICE).worth("00"), 6)

    def test_sums_over_all_ways(self):
        for seed, rewriter in enumerate(MADE_UP):
            for size in range(3):
                tally = made_up_tally(seed, "12", size, -9, 9)
                found = through(tally, rewriter)
                self.assertEqual(found.digits, "01")
                self.assertLessEqual(len(found), size * rewriter.size)
                for ticket in brute_tickets("01", 4):
                    self.assertEqual(found.worth(ticket), sum(tally.worth(other) * count for other, count
                                                              in brute_rewritings(rewriter, ticket)))

    def test_edges(self):
        self.assertEqual(len(through(EMPTY, TWICE)), 0)
        self.assertEqual(through(nought("23"), STILL).worth("01"), 0)
        self.assertEqual(through(Tally("23", (1,), (((1,),), ((1,),)), (1,)), STILL).worth(""), 0)
        self.assertTrue(are_same(through(ONES, kept("01")), ONES))
        self.assertEqual(through(tally=VALUE, rewriter=TWICE).worth("0"), 1)

    def test_the_greatest_sizes(self):
        tally = made_up_tally(3, "012", 10, -9, 9, 0)
        rewriter = made_up_rewriter(5, "012", "012", 4, 24)
        for ticket in ("", "012", "2101"):
            self.assertEqual(through(tally, rewriter).worth(ticket),
                             sum(tally.worth(other) * count for other, count in brute_rewritings(rewriter, ticket)))

    def test_other_digits(self):
        for tally, rewriter in ((ONES, kept("0")), (ONES, kept("012")), (nought("0"), TWICE), (ONES, exchanged(TWICE))):
            with self.assertRaises(OtherDigits):
                through(tally, rewriter)
