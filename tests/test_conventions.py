"""What holds of all functions: kinds of results, the same again, nothing handed in changes, plain things hold."""

import copy
import unittest

from tallyhouse import (answers, asked, bookfindings, bounds, caps, doubling, findings, growthfindings, growthpapers,
                        lattices, leasts, madeof, making, pieces, powers, prices, prizes, promises, ranges, relations,
                        rewriters, rowfindings, sames, singles, takings, tickets, told, useful, wider)
from tallyhouse.console import Console
from tallyhouse.errors import TallyError
from tallyhouse.house import House
from tallyhouse.pieces import Piece
from tallyhouse.prices import Book
from tallyhouse.rewriters import Rewriter
from tallyhouse.sales import Till
from tallyhouse.tallies import Tally
from tests.book_samples import BOOK, EIGHT, THREE
from tests.samples import BOTH, DIGITSUM, EMPTY, LENGTH, ODD, ODDITIES, ONES, TWICE, TWOS, VALUE, ZEROS

GIVEN = (ONES, ZEROS, LENGTH)
ROWS = ((2, 4, 0), (0, 3, 1), (2, 1, -1))
HOUSE = House()
HOUSE.keep("ones", ONES)
HOUSE.make_promise("ones", ("degree", 1))
TILL = Till(ONES)
TILL.sell("00", "01")
TILL.set_tariff(VALUE)
TILL.sell("11", "11")
TILL.undo()
CONSOLE = Console()
CONSOLE.run("keep ones " + str(ONES).replace("\n", ";"))
CONSOLE.run("tell ones 00 01 5")
CALLS = [
    (tickets.are_digits, ("01",)), (tickets.is_ticket, ("01", "0")), (tickets.roll, ("01", 3)),
    (tickets.is_ahead, ("1", "00")), (Tally, ("0", (1,), (((1,),),), (2,))), (Tally, ("0", [1], (), ())),
    (Tally.read, (str(ONES),)), (Tally.read, ("tally 01",)), (Tally.row, (ONES, "01")), (Tally.worth, (ONES, "01")),
    (Tally.table, (ONES, "01")), (Tally.worth, (ONES, ["0"])), (making.added, (ONES, VALUE)),
    (making.lessened, (ONES, VALUE)), (making.multiplied, (ONES, VALUE)), (making.met, (ONES, VALUE)),
    (making.met, (ONES, DIGITSUM)), (making.times, (3, ONES)), (making.turned, (VALUE,)), (making.ahead, (VALUE, "1")),
    (making.behind, (VALUE, "1")), (making.nought, ("01",)), (making.lone, ("01", "10")), (pieces.Piece, (ONES, "1")),
    (Piece.joined, (Piece(ONES, "1"), Piece(ONES, "0"))), (Piece.led, (Piece(ONES, "1"), (1, 2))),
    (Piece.joined, (Piece(ONES, "1"), Piece(VALUE, "0"))), (lattices.hermite, (ROWS, 3)),
    (lattices.lattice_rank, (ROWS, 3)), (lattices.is_in_lattice, (ROWS, (2, 7, 1))), (lattices.is_in_span, (ROWS, (1, 0, 0))),
    (lattices.numbers_for, (ROWS, (2, 7, 1))), (lattices.fractions_for, (ROWS, (1, 2, 0))),
    (lattices.bar_for, (ROWS, (1, 2, 0))), (sames.are_same, (ONES, VALUE)), (sames.first_apart, (ONES, VALUE)),
    (sames.judge_same, (ONES, making.times(1, ONES))), (sames.same_holds, (ONES, VALUE, ("apart", "10"))),
    (sames.judge_same, (ONES, DIGITSUM)), (leasts.rank, (ONES,)), (leasts.tellers, (ONES,)), (leasts.marks, (ONES, "1")),
    (leasts.marks, (ONES, "2")), (leasts.least, (VALUE,)), (leasts.is_least, (VALUE,)), (leasts.witnesses, (VALUE,)),
    (leasts.witnesses_hold, (VALUE, 1, (("1",), ("",)))),
    (Rewriter, ("0", "01", 1, ((0, "0", "1", 0),), (0,))), (Rewriter, ("0", "01", 0, (), ())),
    (Rewriter.read, (str(TWICE),)), (Rewriter.read, ("rewriter 1",)), (Rewriter.ways, (TWICE, "00")),
    (Rewriter.rewritings, (TWICE, "00")), (rewriters.kept, ("01",)), (rewriters.up_to, ("012",)),
    (rewriters.one_ahead, ("012",)), (rewriters.exchanged, (TWICE,)), (rewriters.joined, (TWICE, rewriters.up_to("01"))),
    (rewriters.through, (VALUE, TWICE)), (singles.is_single, (TWICE,)), (singles.first_doubled, (TWICE,)),
    (singles.judge_single, (rewriters.kept("01"),)), (singles.single_holds, (TWICE, ("two", "0"))),
    (ranges.sums, (ONES,)), (ranges.steps, (ONES,)), (ranges.range_sum, (ONES, "01", "10")),
    (ranges.block_sum, (ONES, "1", 3)), (ranges.roll_sum, (ONES, 3)), (ranges.roll_sums, (ONES, 3)),
    (ranges.beginnings, ("01", "001", "110")), (ranges.ticket_ahead, ("01", "10")), (ranges.ticket_behind, ("01", "01")),
    (takings.takings, (DIGITSUM, "01", 4)), (takings.takings, (ONES, "01", 9)), (takings.takings, (ONES, None, 9)),
    (takings.takings_hold, (ONES, "01", 9, ("never", 4))), (takings.cuts, (DIGITSUM, 2, (1, 3, 99))),
    (relations.worth_row, (GIVEN, "011")), (relations.worth_row, (GIVEN, 0)), (relations.worth_rows, (GIVEN,)),
    (relations.rank_together, (GIVEN,)), (relations.telling_tickets, (GIVEN,)), (relations.relations, (GIVEN,)),
    (relations.relations, ((ONES, DIGITSUM),)), (relations.is_relation, (GIVEN, (1, 1, -1))),
    (relations.combined, (GIVEN, (1, 2, 3))), (relations.judge_relations, (GIVEN,)),
    (relations.relations_hold, (GIVEN, ("relations", ((1, 1, -1),), ("0", "1")))),
    (madeof.is_made_of, (LENGTH, GIVEN)), (madeof.judge_made_of, (LENGTH, GIVEN)), (madeof.judge_made_of, (VALUE, GIVEN)),
    (madeof.made_of_holds, (LENGTH, GIVEN, ("made", (0, 0, 1)))), (madeof.least_multiple, (LENGTH, GIVEN)),
    (madeof.least_multiple, (VALUE, GIVEN)), (madeof.step_of, (GIVEN,)), (madeof.is_made_by_fractions, (LENGTH, GIVEN)),
    (madeof.judge_by_fractions, (LENGTH, GIVEN)), (madeof.judge_by_fractions, (VALUE, GIVEN)),
    (madeof.by_fractions_hold, (VALUE, GIVEN, ("barred", (("10", (1, 1)), ("01", (-1, 1)))))),
    (useful.useful_states, (ONES,)), (useful.ways, (ONES, "11", 0, 1)), (useful.ways, (ONES, ["1"], 0, 1)),
    (useful.along, (ONES, "", "1", "")), (doubling.doubling_states, (VALUE,)), (doubling.does_double, (VALUE,)),
    (doubling.doubled, (("doubles", "", 0, "0", ""), 3)), (powers.rises, (ONES,)), (powers.degree, (ONES,)),
    (powers.degree, (VALUE,)), (powers.levels_of, (ONES,)), (powers.levels_of, (TWOS,)),
    (powers.raised, (("power", ((0, 0), (1, 1)), (("", 0, "1", 1),), ""), 3)),
    (growthpapers.judge_growth, (ONES,)), (growthpapers.judge_growth, (TWOS,)), (growthpapers.grows_more, (TWOS, ONES)),
    (growthpapers.growth_holds, (TWOS, ("doubles", "", 0, "0", ""))), (bounds.worths_round, (ONES, "", "1", "", 4)),
    (bounds.worths_round, (ONES, "", "", "", 4)), (bounds.do_come_round, (ODD, "", "1", "")), (bounds.judge_bounds, (ODD,)),
    (bounds.judge_bounds, (ONES,)), (bounds.is_bounded, (ODD,)), (bounds.bounds_hold, (ODD, ("bounded", ((0, 1), (1, 0))))),
    (bounds.worths_of, (ODD,)), (bounds.worths_of, (VALUE,)), (caps.capped, (ONES, (1, 9), 3)),
    (caps.capped_on, (ONES, (1, 4), "1", 3)), (caps.capped_rows, (ONES, 3)), (caps.judge_cap, (ONES, 3)),
    (caps.judge_cap, (ODD, 3)), (caps.is_within, (ODD, 1)), (caps.cap_holds, (ONES, 1, ("above", "11"))),
    (caps.first_above, (ONES, 2)), (caps.least_cap, (ODD,)), (caps.least_cap, (ONES,)), (answers.machine, (ODD,)),
    (answers.machine, (ONES,)), (answers.how_many, (ODD, 1, 3)), (answers.worths_in, (ODD, 3)),
    (answers.first_of, (ODD, 1, 3)), (answers.nth_of, (ODD, 1, 3, 3)), (answers.place_of, (ODD, "100")),
    (answers.place_of, (ODD, 1)), (answers.next_of, (ODD, 1, "001")), (answers.ticket_of, (ODD, 1, 2)),
    (prizes.greatest, (BOTH, 4)), (prizes.lowest, (BOTH, 4)), (prizes.greatest_ticket, (BOTH, 4)),
    (prizes.lowest_ticket, (BOTH, 4)), (prizes.greatests, (BOTH, 4)), (prizes.lowests, (BOTH, 4)),
    (prizes.greatest_behind, (BOTH, "1", 3)), (prizes.lowest_behind, (BOTH, None, 3)), (prizes.highest_rows, (BOTH, 4)),
    (prizes.lowest_rows, (BOTH, 4)), (prizes.is_below, (BOTH, (1, 1), (1, 2))), (prizes.judge_greatest, (BOTH, 2)),
    (prizes.judge_lowest, (BOTH, 2)), (prizes.greatest_holds, (ONES, 0, ("greatest", "", (((1, 0),),)))),
    (prizes.lowest_holds, (ONES, 0, ("lowest", "", (((1, 0),),)))),
    (Book, (ONES, (("0", "1", 2),))), (Book, (ONES, (("0", "1", 2), None))), (Book, (ONES, [])),
    (Book.with_told, (BOOK, "", "", 1)), (Book.with_told, (BOOK, "1", "0", 1)), (Book.without, (THREE, 1)),
    (prices.told_row, (THREE, 1)), (prices.are_prices, (BOOK, (2, 1))), (prices.can_be, (BOOK,)),
    (prices.judge_book, (BOOK,)), (prices.judge_book, (THREE,)), (prices.book_holds, (BOOK, ("can", (2, 1)))),
    (prices.suspects, (THREE,)), (told.rest_and_step, (BOOK, "11")), (told.rest_and_step, (THREE, "11")),
    (told.judge_worths, (BOOK, "11")), (told.judge_worths, (THREE, "")), (told.worths_hold, (BOOK, "11", None)),
    (told.is_told, (EIGHT, "1")), (told.first_open, (EIGHT,)), (told.judge_all, (EIGHT,)), (told.judge_all, (THREE,)),
    (told.all_holds, (EIGHT, ("open", "", (0, 0), (1, -1)))), (asked.to_ask, (BOOK,)), (asked.is_lot, (BOOK, ("", "1"))),
    (asked.is_enough, (BOOK, ("1",))), (asked.is_cheapest, (BOOK, ("1",))), (asked.cost_of, (("1", "01"),)),
    (asked.asked, (BOOK, ("1",), (2, 1))), (wider.is_reading, (ONES, ("0", ("11",)))),
    (wider.read_through, (ONES, ("0", ("11",)))), (wider.merged, (DIGITSUM, "0", "2")), (wider.merged, (DIGITSUM, "0", ["2"])),
    (wider.symmetries, (BOTH,)), (wider.is_free_of_order, (VALUE,)), (wider.is_by_length, (VALUE,)),
    (wider.order_apart, (VALUE,)), (wider.order_apart, (ONES,)), (wider.length_apart, (VALUE,)),
    (wider.order_apart_holds, (VALUE, ("apart", "", "0", "1", ""))),
    (wider.length_apart_holds, (VALUE, ("apart", "", "0", "1", ""))), (promises.is_promise, (("made of", ("a",)),)),
    (promises.fault_of, (ONES, ("cap", 3), None, ())), (promises.fault_of, (ONES, ("made of", ("a",)), None, (LENGTH,))),
    (promises.fault_of, (ONES, ("sums", 1), LENGTH, ())), (House.of, ((("keep", "a", str(ONES)),),)),
    (House.of, ((("keep", "a", str(ONES)), None),)), (House.gate, (HOUSE, "ones", VALUE)), (House.gate, (HOUSE, "no", VALUE)),
    (House.names, (HOUSE,)), (House.log, (HOUSE,)), (House.tariff_now, (HOUSE, "ones")), (House.editions, (HOUSE, "ones")),
    (House.promises, (HOUSE, "ones")), (House.trial, (HOUSE,)), (House.make_promise, (HOUSE, "ones", ("rank", 1))),
    (House.make_promise, (HOUSE, "ones", [])), (House.keep, (HOUSE, "ones", ONES)), (House.drop, (HOUSE, ("ones",))),
    (House.release, (HOUSE, "ones", ("rank", 2))), (House.add_edition, (HOUSE, "ones", VALUE)),
    (House.add_edition, (HOUSE, "ones", DIGITSUM)), (Till.would_pay, (TILL, "00", "11")), (Till.sell, (TILL, "01", "10")),
    (Till.sell, (TILL, "1", 0)), (Till.take_back, (TILL, "00", "10")), (Till.set_tariff, (TILL, DIGITSUM)),
    (Till.takings, (TILL,)), (Till.sold, (TILL, 2)), (Till.many_sold, (TILL, 2)), (Till.first_free, (TILL, 2)),
    (Till.is_sold, (TILL, "01")), (Till.paid, (TILL, "01")), (Till.log, (TILL,)), (Till.trial, (TILL,)),
    (Till.of, (ONES, (("sell", "0", "1"),))), (Till.of, (ONES, (("sell", "0", "2"),))), (Console.house_now, (CONSOLE,)),
    (Console.run, (CONSOLE, "worths ones 11")), (Console.run, (CONSOLE, "ask ones")), (Console.run, (CONSOLE, "worths no 11")),
    (Console.run, (CONSOLE, None)), (Console.run, (CONSOLE, "promise ones cap 3")), (Console.run, (CONSOLE, "worth ones 2")),
    (rowfindings.row_finding_holds, (("rank", str(ONES), 2),)), (findings.finding_holds, (("rank", str(ONES), 2),)),
    (growthfindings.growth_finding_holds, (("bounds", str(ODD), ("bounded", ((0, 1), (1, 0)))),)),
    (bookfindings.book_finding_holds, (("lot", str(ONES), (), ("", "1")),)),
]


CLASSES = (Tally, Rewriter, Piece, Book, House, Till, Console)


def outcome(call, arguments):
    """What a call returns or raises, as something that can be compared."""
    try:
        return call(*arguments)
    except TallyError as error:
        return error.__class__.__name__, vars(error)


def state(thing):
    """All that is in a value, objects too."""
    if isinstance(thing, CLASSES):
        return thing.__class__.__name__, {name: state(part) for name, part in vars(thing).items()}
    if isinstance(thing, (tuple, list)):
        return thing.__class__.__name__, [state(part) for part in thing]
    if isinstance(thing, dict):
        return "dict", sorted((repr(key), state(part)) for key, part in thing.items())
    return repr(thing)


def plain(thing):
    """Whether a result is built of the kinds that the document tells."""
    if type(thing) is tuple:
        return all(plain(part) for part in thing)
    return thing is None or type(thing) in (int, str, bool) + CLASSES


class ConventionsTest(unittest.TestCase):
    def test_the_same_again_and_nothing_changes(self):
        for call, arguments in CALLS:
            before = state(arguments)
            first = outcome(call, arguments)
            kept = state(first)
            self.assertEqual(state(outcome(call, arguments)), kept, call.__qualname__)
            self.assertEqual(state(arguments), before, call.__qualname__)
            self.assertEqual(state(outcome(call, copy.deepcopy(arguments))), kept, call.__qualname__)

    def test_kinds_of_results(self):
        for call, arguments in CALLS:
            found = outcome(call, arguments)
            if not (isinstance(found, tuple) and len(found) == 2 and isinstance(found[1], dict)):
                self.assertTrue(plain(found), call.__qualname__)
            name = call.__name__
            if name.startswith(("is_", "are_")) or name.endswith(("_hold", "_holds")):
                self.assertIs(type(found), bool, name)

    def test_objects_are_equal_to_no_other_value(self):
        for thing in (ONES, EMPTY, TWICE, Piece(ONES, ""), Piece(EMPTY, ""), BOOK, HOUSE, House(), TILL, CONSOLE):
            for other in ODDITIES:
                if thing is not other and state(thing) != state(other):
                    self.assertIs(thing == other, False)
                    self.assertIs(other == thing, False)

    def test_checkers_take_any_value(self):
        deep = ("same", ())
        for depth in range(16):
            deep = (deep, [deep, {"x": deep}]) if depth < 3 else (deep,)
        great = tuple([("0",) * 10] * 270)
        for thing in ODDITIES + (deep, great, "~" * 2000, (10 ** 39,) * 2999, ("same", great), ("apart", "~" * 2000),
                                 ("single", great), ("two", "~" * 2000), (great, great)):
            for found in (tickets.are_digits(thing), tickets.is_ticket("01", thing), sames.same_holds(ONES, ONES, thing),
                          leasts.witnesses_hold(ONES, 2, thing), singles.single_holds(TWICE, thing),
                          takings.takings_hold(ONES, "01", 3, thing), relations.relations_hold(GIVEN, thing),
                          relations.is_relation(GIVEN, thing), madeof.made_of_holds(ONES, GIVEN, thing),
                          madeof.by_fractions_hold(ONES, GIVEN, thing), growthpapers.growth_holds(ONES, thing),
                          bounds.bounds_hold(ODD, thing), caps.cap_holds(ODD, 1, thing),
                          prizes.greatest_holds(ONES, 1, thing), prizes.lowest_holds(ONES, 1, thing),
                          prices.book_holds(THREE, thing), prices.are_prices(BOOK, thing),
                          told.worths_hold(BOOK, "11", thing), told.all_holds(THREE, thing),
                          wider.is_reading(ONES, thing), wider.order_apart_holds(VALUE, thing),
                          wider.length_apart_holds(VALUE, thing), promises.is_promise(thing),
                          findings.finding_holds(thing), TILL.is_sold(thing)):
                self.assertTrue(found is False or thing in ("0", "1", "", "01"), repr(thing)[:60])
