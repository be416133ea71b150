import random
import unittest

from tallyhouse.errors import (BadDeed, NoStretch, NothingToRedo, NothingToUndo, NotSold, OtherDigits, SoldBefore,
                               TallyError)
from tallyhouse.making import nought, times
from tallyhouse.ranges import range_sum, roll_sum
from tallyhouse.sales import Till
from tallyhouse.tallies import Tally
from tests.samples import (DIGITSUM, EMPTY, LENGTH, ODDITIES, ONE, ONES, TWOS, VALUE, ZEROS, brute_roll, brute_worth,
                           made_up_tally)

PAIRS_OF_NO_STRETCH = [(None, "0"), ("0", None), ("0", "00"), ("00", "0"), ("1", "0"), ("10", "01"), ("0", "2"), ("2", "2"),
                       (0, 1), (["0"], ["1"]), (("0",), "0"), ("0", True), (ONES, ONES), ({}, "0"), ("-", "-"), (" ", " ")]


def outcome(call, *arguments):
    """What a call returns or raises, as something that can be compared."""
    try:
        return call(*arguments)
    except TallyError as error:
        return error.__class__.__name__, vars(error)


def full_state(till, longest=3):
    """All that a till answers."""
    digits = till.tariff.digits
    rolls = []
    for length in range(longest + 1):
        tickets = brute_roll(digits, length)
        rolls.append((till.sold(length), till.many_sold(length), till.first_free(length),
                      [(till.is_sold(ticket), till.paid(ticket)) for ticket in tickets],
                      till.would_pay(tickets[0], tickets[-1])))
    return till.tariff, len(till), till.takings(), till.log(), rolls


class Model:
    """A till ticket by ticket, by the words of the document."""

    def __init__(self, tally):
        self.first, self.tariff = tally, tally
        self.bought, self.deeds, self.undone = {}, [], []

    def stretch(self, low, high):
        if not (type(low) is str and type(high) is str and set(low + high) <= set(self.tariff.digits)
                and len(low) == len(high) and low <= high):
            raise NoStretch(low, high)
        return [ticket for ticket in brute_roll(self.tariff.digits, len(low)) if low <= ticket <= high]

    def sell(self, low, high):
        tickets = self.stretch(low, high)
        for ticket in tickets:
            if ticket in self.bought:
                raise SoldBefore(ticket)
        for ticket in tickets:
            self.bought[ticket] = self.tariff
        self.deeds.append(("sell", low, high))
        self.undone = []
        return sum(brute_worth(self.tariff, ticket) for ticket in tickets)

    def take_back(self, low, high):
        tickets = self.stretch(low, high)
        for ticket in tickets:
            if ticket not in self.bought:
                raise NotSold(ticket)
        self.deeds.append(("return", low, high))
        self.undone = []
        return sum(brute_worth(self.bought.pop(ticket), ticket) for ticket in tickets)

    def set_tariff(self, tally):
        if tally.digits != self.tariff.digits:
            raise OtherDigits()
        self.tariff = tally
        self.deeds.append(("tariff", str(tally)))
        self.undone = []

    def do_all(self, deeds):
        undone = self.undone
        self.__init__(self.first)
        for word, *parts in deeds:
            {"sell": self.sell, "return": self.take_back,
             "tariff": lambda text: self.set_tariff(Tally.read(text))}[word](*parts)
        self.undone = undone

    def undo(self):
        if not self.deeds:
            raise NothingToUndo()
        self.undone.append(self.deeds[-1])
        self.do_all(self.deeds[:-1])

    def redo(self):
        if not self.undone:
            raise NothingToRedo()
        deed = self.undone.pop()
        self.do_all(self.deeds + [deed])

    def takings(self):
        return sum(brute_worth(tariff, ticket) for ticket, tariff in self.bought.items())

    def would_pay(self, low, high):
        return sum(brute_worth(self.tariff, ticket) for ticket in self.stretch(low, high) if ticket not in self.bought)

    def sold(self, length):
        found, open_at = [], None
        for ticket in brute_roll(self.tariff.digits, length):
            if ticket in self.bought:
                if open_at is None:
                    found.append([ticket, ticket])
                found[-1][1] = open_at = ticket
            else:
                open_at = None
        return tuple(map(tuple, found))


class TillTest(unittest.TestCase):
    def test_examples(self):
        till = Till(ONES)
        self.assertEqual(till.sell("000", "011"), 4)
        with self.assertRaises(SoldBefore) as caught:
            till.sell("011", "111")
        self.assertEqual(caught.exception.ticket, "011")
        self.assertEqual(till.sell("100", "100"), 1)
        self.assertEqual(till.sold(3), (("000", "100"),))
        self.assertEqual(till.take_back("010", "011"), 3)
        self.assertEqual(till.takings(), 2)
        self.assertEqual(till.sold(3), (("000", "001"), ("100", "100")))
        self.assertEqual(till.first_free(3), "010")
        till.undo()
        self.assertEqual(till.takings(), 5)
        till.set_tariff(VALUE)
        self.assertEqual(till.would_pay("000", "111"), 18)
        self.assertEqual(till.take_back("011", "011"), 2)

    def test_a_till_that_sold_nothing(self):
        till = Till(tally=ONES)
        self.assertEqual((till.tariff, len(till), till.takings(), till.log()), (ONES, 0, 0, ()))
        for length in range(5):
            self.assertEqual((till.sold(length), till.many_sold(length), till.first_free(length)), ((), 0, "0" * length))
        for call, error in ((till.undo, NothingToUndo), (till.redo, NothingToRedo)):
            with self.assertRaises(error):
                call()

    def test_stretches_that_are_none(self):
        till = Till(ONES)
        till.sell("0", "0")
        before = full_state(till)
        for low, high in PAIRS_OF_NO_STRETCH:
            for call in (till.sell, till.take_back, till.would_pay):
                with self.assertRaises(NoStretch) as caught:
                    call(low, high)
                self.assertTrue(caught.exception.low is low and caught.exception.high is high)
        for thing in ODDITIES:
            if not (isinstance(thing, str) and set(thing) <= set("01")):
                for call in (till.sell, till.take_back, till.would_pay):
                    self.assertEqual(outcome(call, thing, "0")[0], "NoStretch")
        self.assertEqual(full_state(till), before)

    def test_the_first_ticket_that_is_sold_or_not(self):
        till = Till(DIGITSUM)
        till.sell("02", "10")
        till.sell("20", "20")
        for low, high, ticket in (("00", "22", "02"), ("02", "02", "02"), ("10", "22", "10"), ("11", "22", "20"),
                                  ("00", "02", "02"), ("20", "22", "20")):
            self.assertEqual(outcome(till.sell, low, high), ("SoldBefore", {"ticket": ticket}))
        for low, high, ticket in (("00", "22", "00"), ("02", "22", "11"), ("02", "11", "11"), ("20", "22", "21"), ("12", "12", "12"),
                                  ("01", "10", "01"), ("10", "20", "11"), ("22", "22", "22")):
            self.assertEqual(outcome(till.take_back, low, high), ("NotSold", {"ticket": ticket}))
        # of another roll, or no longer, they are not sold
        self.assertEqual(till.sell("020", "101"), range_sum(DIGITSUM, "020", "101"))
        self.assertEqual(outcome(till.take_back, "0", "1"), ("NotSold", {"ticket": "0"}))
        till.take_back("02", "10")
        self.assertEqual(outcome(till.take_back, "02", "10"), ("NotSold", {"ticket": "02"}))
        self.assertEqual(till.sell("02", "10"), 2 + 1)

    def test_the_empty_ticket(self):
        till = Till(ONE)
        self.assertEqual(till.sell("", ""), 1)
        self.assertEqual((till.sold(0), till.many_sold(0), till.first_free(0)), ((("", ""),), 1, None))
        self.assertIs(till.is_sold(""), True)
        self.assertEqual((till.paid(""), till.would_pay("", ""), till.takings()), (1, 0, 1))
        self.assertEqual(outcome(till.sell, "", ""), ("SoldBefore", {"ticket": ""}))
        self.assertEqual(till.take_back("", ""), 1)
        self.assertEqual(outcome(till.take_back, "", ""), ("NotSold", {"ticket": ""}))
        self.assertEqual((till.first_free(0), till.sold(0)), ("", ()))

    def test_whole_rolls_and_stretches_side_by_side(self):
        till = Till(DIGITSUM)
        for low, high in (("11", "12"), ("00", "02"), ("20", "22"), ("10", "10")):
            till.sell(low, high)
        self.assertEqual(till.sold(2), (("00", "22"),))
        self.assertEqual((till.many_sold(2), till.first_free(2), till.takings()), (9, None, 18))
        self.assertEqual(till.take_back("01", "21"), 18 - 4)
        self.assertEqual(till.sold(2), (("00", "00"), ("22", "22")))
        self.assertEqual(till.first_free(2), "01")
        till.take_back("00", "00")
        self.assertEqual((till.sold(2), till.first_free(2)), ((("22", "22"),), "00"))

    def test_one_digit(self):
        till = Till(TWOS)
        self.assertEqual(till.sell("000", "000"), 8)
        self.assertEqual((till.sold(3), till.many_sold(3), till.first_free(3), till.first_free(2)),
                         ((("000", "000"),), 1, None, "00"))
        self.assertEqual(till.take_back("000", "000"), 8)

    def test_rolls_of_forty_digits(self):
        till = Till(VALUE)
        first, last = "0" * 40, "1" * 40
        low, high = "01" * 20, "10" * 20
        one, other = int(low, 2), int(high, 2)
        self.assertEqual(till.sell(low, high), (one + other) * (other - one + 1) // 2)
        self.assertEqual(till.many_sold(40), other - one + 1)
        self.assertEqual(till.first_free(40), first)
        self.assertEqual(till.would_pay(first, last), 2 ** 39 * (2 ** 40 - 1) - till.takings())
        till.sell(first, "01" * 19 + "00")
        self.assertEqual((till.sold(40), till.first_free(40)), (((first, high),), "10" * 19 + "11"))
        till.set_tariff(ONES)
        self.assertEqual(till.sell("10" * 19 + "11", last), roll_sum(ONES, 40) - range_sum(ONES, first, high))
        self.assertEqual((till.sold(40), till.many_sold(40), till.first_free(40)), (((first, last),), 2 ** 40, None))
        self.assertEqual(till.take_back(first, last), range_sum(VALUE, first, high) + range_sum(ONES, "10" * 19 + "11", last))
        self.assertEqual(till.takings(), 0)
        self.assertIs(till.is_sold(low), False)
        till.undo()
        self.assertIs(till.is_sold(low), True)
        self.assertEqual((till.paid(low), till.paid(last)), (one, 40))

    def test_paid_back_as_it_was_paid(self):
        till = Till(ONES)
        till.sell("000", "011")
        till.set_tariff(VALUE)
        till.sell("100", "111")
        till.set_tariff(times(5, LENGTH))
        self.assertEqual([till.paid(ticket) for ticket in ("000", "011", "100", "111")], [0, 2, 4, 7])
        self.assertEqual(till.sold(3), (("000", "111"),))
        self.assertEqual(till.takings(), 4 + 4 + 5 + 6 + 7)
        self.assertEqual(till.take_back("010", "101"), 1 + 2 + 4 + 5)
        self.assertEqual(till.would_pay("000", "111"), 15 * 4)
        self.assertEqual(till.sell("010", "010"), 15)
        self.assertEqual(till.take_back("000", "010"), 0 + 1 + 15)
        self.assertEqual(till.takings(), 6 + 7)
        with self.assertRaises(OtherDigits):
            till.set_tariff(DIGITSUM)
        self.assertEqual(till.tariff, times(5, LENGTH))

    def test_worths_below_nought(self):
        till = Till(times(-1, VALUE))
        self.assertEqual((till.sell("01", "10"), till.takings(), till.take_back("10", "10"), till.takings()), (-3, -3, -2, -1))

    def test_any_value_that_is_no_ticket(self):
        till = Till(ONES)
        till.sell("0", "1")
        till.sell("", "")
        for thing in ODDITIES + ("00", "2", "-", "0 ", ["0"], ("0", "1"), 0, b"0", "0" * 2000):
            sold = isinstance(thing, str) and thing in ("", "0", "1")
            self.assertIs(till.is_sold(thing), sold, repr(thing)[:40])
            self.assertEqual(till.paid(thing), brute_worth(ONES, thing) if sold else None)
        self.assertIs(till.is_sold(thing="1"), True)
        self.assertEqual(till.paid(thing="1"), 1)

    def test_log(self):
        till = Till(ONES)
        till.sell(low="00", high="01")
        till.set_tariff(tally=VALUE)
        till.set_tariff(VALUE)
        till.take_back(low="01", high="01")
        self.assertEqual(till.log(), (("sell", "00", "01"), ("tariff", str(VALUE)), ("tariff", str(VALUE)), ("return", "01", "01")))
        self.assertEqual(len(till), 4)
        self.assertEqual(full_state(Till.of(tally=ONES, log=till.log())), full_state(till))

    def test_undo_and_redo(self):
        till = Till(ONES)
        states = [full_state(till)]
        for call, arguments in ((till.sell, ("000", "011")), (till.set_tariff, (VALUE,)), (till.sell, ("100", "101")),
                                (till.take_back, ("011", "100")), (till.set_tariff, (VALUE,)), (till.sell, ("", ""))):
            call(*arguments)
            states.append(full_state(till))
        for _ in range(2):
            while len(till):
                self.assertEqual(full_state(till), states[len(till)])
                self.assertIsNone(till.undo())
            self.assertEqual(full_state(till), states[0])
            with self.assertRaises(NothingToUndo):
                till.undo()
            while len(till) < 6:
                self.assertIsNone(till.redo())
                self.assertEqual(full_state(till), states[len(till)])
            with self.assertRaises(NothingToRedo):
                till.redo()

    def test_redo_behind_another_deed_and_behind_an_error(self):
        till = Till(ONES)
        for low in ("0", "1"):
            till.sell(low, low)
        till.undo()
        # calls that raise errors, and calls that only tell something, are no deeds
        for call, arguments in ((till.sell, ("0", "0")), (till.sell, (None, None)), (till.take_back, ("1", "1")),
                                (till.set_tariff, (DIGITSUM,)), (till.would_pay, ("1", "0")), (till.sold, (1,)), (till.trial, ())):
            outcome(call, *arguments)
        till.redo()
        self.assertEqual(till.log(), (("sell", "0", "0"), ("sell", "1", "1")))
        till.undo()
        till.set_tariff(ONES)
        with self.assertRaises(NothingToRedo):
            till.redo()
        till.undo()
        till.redo()
        self.assertEqual(till.log(), (("sell", "0", "0"), ("tariff", str(ONES))))
        for _ in range(2):
            till.undo()
        till.redo()
        till.sell("1", "1")
        self.assertEqual(outcome(till.redo), ("NothingToRedo", {}))

    def test_till_of_a_log(self):
        till = Till(ONES)
        till.sell("00", "10")
        till.set_tariff(VALUE)
        till.take_back("01", "01")
        log = till.log()
        for deed in ODDITIES + (("sell", "01", "10"), ("sell", "1", "0"), ("sell", "00"), ("sell", "11", "11", 0), ["sell", "11", "11"],
                                ("return", "01", "01"), ("return", "00"), ("return", None, None), ("tariff", str(DIGITSUM)),
                                ("tariff", VALUE), ("tariff", str(VALUE) + "\n"), ("tariff",), ("tariff", str(VALUE), 0),
                                ("Sell", "11", "11"), ("buy", "11", "11"), (["sell"], "11", "11"), ("take_back", "00", "00"),
                                ("undo",), ("tariff", None), ("sell", ["11"], "11"), ("set_tariff", str(VALUE))):
            self.assertEqual(outcome(Till.of, ONES, log + (deed,)), ("BadDeed", {"number": 3}), repr(deed))
            self.assertEqual(outcome(Till.of, ONES, log + (deed,) + log), ("BadDeed", {"number": 3}))
        self.assertEqual(outcome(Till.of, ONES, log[1:]), ("BadDeed", {"number": 1}))
        self.assertEqual(outcome(Till.of, DIGITSUM, log), ("BadDeed", {"number": 1}))
        self.assertEqual(outcome(Till.of, nought("2"), log), ("BadDeed", {"number": 0}))
        for thing in (None, list(log), "log", {}, till, 7, True) + ODDITIES:
            if thing != ():
                self.assertEqual(outcome(Till.of, ONES, thing), ("BadDeed", {"number": 0}), repr(thing))
        self.assertEqual(full_state(Till.of(VALUE, ())), full_state(Till(VALUE)))
        with self.assertRaises(BadDeed):
            Till.of(ONES, (("sell", "0", "1"), ("sell", "0", "1")))

    def test_trial(self):
        till = Till(ONES)
        till.sell("00", "01")
        till.set_tariff(VALUE)
        till.sell("10", "10")
        till.undo()
        before = full_state(till)
        trial, other = till.trial(), till.trial()
        self.assertTrue(trial == till and trial is not till)
        self.assertEqual(full_state(trial), before)
        trial.redo()
        trial.take_back("00", "10")
        trial.undo()
        self.assertEqual(full_state(till), before)
        till.redo()
        self.assertEqual(full_state(till), full_state(trial))
        till.sell("11", "11")
        self.assertEqual(full_state(other), before)
        other.redo()
        for _ in range(3):
            other.undo()
        self.assertEqual(full_state(other), full_state(Till(ONES)))
        self.assertEqual(len(till), 4)

    def test_equal_tills(self):
        one, other = Till(ONES), Till(VALUE)
        self.assertFalse(one == other)
        other.set_tariff(ONES)
        self.assertTrue(one == other)
        one.sell("000", "111")
        for low, high in (("100", "111"), ("000", "000"), ("010", "011"), ("001", "001")):
            self.assertFalse(one == other)
            other.sell(low, high)
        self.assertTrue(one == other)
        self.assertEqual((len(one), len(other)), (1, 5))
        # sold by an unlike tariff, though for the same
        other.take_back("000", "000")
        other.set_tariff(VALUE)
        other.sell("000", "000")
        other.set_tariff(ONES)
        self.assertEqual(other.paid("000"), one.paid("000"))
        self.assertEqual(one.sold(3), other.sold(3))
        self.assertFalse(one == other)
        other.take_back("000", "000")
        other.sell("000", "000")
        self.assertTrue(one == other)
        # by an equal one
        other.take_back("001", "110")
        other.set_tariff(Tally.read(str(ONES)))
        other.sell("001", "110")
        self.assertTrue(one == other)
        one.sell("0", "0")
        self.assertFalse(one == other)
        one.take_back("0", "0")
        self.assertTrue(one == other)
        one.set_tariff(ZEROS)
        self.assertFalse(one == other)
        # by stretches side by side behind and between other ones
        one, other = Till(ONES), Till(ONES)
        for till, stretches in ((one, (("001", "001"), ("011", "101"), ("111", "111"))),
                                (other, (("111", "111"), ("001", "001"), ("011", "011"), ("101", "101"), ("100", "100")))):
            for low, high in stretches:
                till.sell(low, high)
        self.assertTrue(one == other)
        # by two tariffs, the first one behind the other one again
        one, other = Till(ONES), Till(ONES)
        for till, middle in ((one, (("010", "101"),)), (other, (("010", "011"), ("100", "101")))):
            till.sell("000", "001")
            till.set_tariff(VALUE)
            for low, high in middle:
                till.sell(low, high)
            till.set_tariff(ONES)
            till.sell("110", "110")
            self.assertEqual([till.paid(ticket) for ticket in ("001", "011", "101", "110")], [1, 3, 5, 2])
        self.assertTrue(one == other)
        self.assertTrue(Till(EMPTY) == Till(nought("01")))
        self.assertFalse(Till(EMPTY) == Till(nought("02")))
        for thing in ODDITIES + (ONES, one.log()):
            self.assertIs(one == thing, False)

    def test_any_deeds_against_a_model(self):
        for seed, digits in enumerate(("01", "012", "7", "01", "012", "38") * 3):
            chance = random.Random(seed)
            tallies = [made_up_tally(seed + k, digits, size, -3, 3, 0.3) for k, size in enumerate((0, 1, 2, 2))]
            tallies.append(made_up_tally(seed, "05", 1))
            till, model = Till(tallies[1]), Model(tallies[1])
            for _ in range(60):
                length = chance.choice((0, 1, 2, 2, 3))
                low, high = ("".join(chance.choice(digits) for _ in range(length)) for _ in range(2))
                if chance.random() < 0.9:
                    low, high = min(low, high), max(low, high)
                kind = chance.choice(("sell", "sell", "take_back", "take_back", "set_tariff", "undo", "undo", "redo"))
                arguments = (low, high) if kind in ("sell", "take_back") else ()
                if kind == "set_tariff":
                    arguments = (chance.choice(tallies),)
                if kind == "take_back" and chance.random() < 0.7 and model.sold(length):
                    arguments = chance.choice(model.sold(length))
                self.assertEqual(outcome(getattr(till, kind), *arguments), outcome(getattr(model, kind), *arguments))
                self.assertEqual((till.takings(), till.log(), till.tariff), (model.takings(), tuple(model.deeds), model.tariff))
                self.assertEqual(outcome(till.would_pay, low, high), outcome(model.would_pay, low, high))
                for more in range(4):
                    free = [ticket for ticket in brute_roll(digits, more) if ticket not in model.bought]
                    self.assertEqual(till.sold(more), model.sold(more))
                    self.assertEqual(till.many_sold(more), len(digits) ** more - len(free))
                    self.assertEqual(till.first_free(more), free[0] if free else None)
            self.assertTrue(Till.of(tallies[1], till.log()) == till)
            for ticket, tariff in model.bought.items():
                self.assertEqual(till.paid(ticket), brute_worth(tariff, ticket))
