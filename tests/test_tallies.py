import random
import unittest

from tallyhouse.errors import BadTally, BadText, BadTicket
from tallyhouse.making import multiplied, nought, times
from tallyhouse.tallies import Tally
from tests.samples import EMPTY, ODDITIES, ONES, VALUE, brute_tickets, brute_worth, made_up_tally

ONE_STATE = Tally("0", (2,), (((3,),),), (-1,))
GREAT = Tally("09", (10 ** 5000 + 7, -(10 ** 4321)), (((0, 1), (-1, 0)), ((12 ** 300, 0), (0, -1))), (1, -(10 ** 60)))


class MadeTest(unittest.TestCase):
    def bad(self, part, *values):
        with self.assertRaises(BadTally) as caught:
            Tally(*values)
        self.assertEqual(caught.exception.part, part, repr(values))

    def test_attributes(self):
        tally = Tally(digits="01", start=(1, 0), tables=(((1, 0), (0, 1)), ((1, 1), (0, 1))), ends=(0, 1))
        self.assertEqual((tally.digits, tally.start, tally.ends), ("01", (1, 0), (0, 1)))
        self.assertEqual(tally.tables, (((1, 0), (0, 1)), ((1, 1), (0, 1))))

    def test_states(self):
        self.assertEqual((len(ONES), len(ONE_STATE), len(EMPTY)), (2, 1, 0))

    def test_bad_digits(self):
        for thing in ODDITIES + ("", "10", "00", "0a"):
            self.bad("digits", thing, None, None, None)

    def test_bad_start(self):
        for thing in (None, 1, "1", [1], (True,), (1, None), ("1",), ((1,),), [], {}, (1, False)):
            self.bad("start", "0", thing, None, None)

    def test_bad_tables(self):
        for thing in (None, (), [((1,),)], (((1,),), ((1,),)), (((1, 0),),), ([(1,)],), (([1],),), (((True,),),),
                      (((1,), (1,)),), ((),), ((1,),), (None,), ((("1",),),), {0: ((1,),)}, "0"):
            self.bad("tables", "0", (1,), thing, None)
        for thing in ((), ((),), (((),), ((),)), [(), ()]):
            self.bad("tables", "01", (), thing, ())

    def test_bad_ends(self):
        for thing in (None, (), (1, 2), [1], (True,), ("1",), 1, ((1,),)):
            self.bad("ends", "0", (1,), (((1,),),), thing)
        self.bad("ends", "0", (), ((),), (0,))

    def test_the_first_part_is_borne(self):
        self.bad("digits", "10", [1], (), ())
        self.bad("start", "01", [1], (), ())
        self.bad("tables", "01", (1,), (), ())

    def test_beyond_the_limits(self):
        tally = Tally("0123456789", (10 ** 50,) * 30, (((5,) * 30,) * 30,) * 10, (0,) * 30)
        self.assertEqual(len(tally), 30)
        self.assertEqual(Tally.read(str(tally)), tally)


class EqualTest(unittest.TestCase):
    def test_equal_attributes(self):
        again = Tally("01", (1, 0), (((1, 0), (0, 1)), ((1, 1), (0, 1))), (0, 1))
        self.assertTrue(ONES == again)
        self.assertFalse(ONES != again)
        self.assertTrue(EMPTY == nought("01"))

    def test_one_attribute_otherwise(self):
        self.assertFalse(ONES == Tally("02", ONES.start, ONES.tables, ONES.ends))
        self.assertFalse(ONES == Tally("01", (1, 1), ONES.tables, ONES.ends))
        self.assertFalse(ONES == Tally("01", ONES.start, VALUE.tables, ONES.ends))
        self.assertFalse(ONES == Tally("01", ONES.start, ONES.tables, (0, 2)))
        self.assertFalse(EMPTY == nought("02"))

    def test_the_same_worths_are_not_equal(self):
        self.assertFalse(ONES == times(1, multiplied(ONES, Tally("01", (1,), (((1,),), ((1,),)), (2,)))))
        self.assertFalse(EMPTY == times(0, ONES))

    def test_other_values(self):
        for thing in ODDITIES:
            self.assertIs(VALUE == thing, False)
            self.assertIs(thing == VALUE, False)
        self.assertFalse(ONES == ("01", ONES.start, ONES.tables, ONES.ends))
        self.assertFalse(ONES == str(ONES))


class WorthTest(unittest.TestCase):
    def test_examples(self):
        self.assertEqual(ONES.row("011"), (1, 2))
        self.assertEqual(ONES.worth("011"), 2)
        self.assertEqual(VALUE.worth("011"), 3)
        self.assertEqual(VALUE.worth("110"), 6)
        self.assertEqual(VALUE.table("10"), ((1, 2), (0, 4)))
        self.assertEqual(ONE_STATE.worth("00"), -18)

    def test_the_empty_ticket(self):
        self.assertEqual(ONES.row(""), (1, 0))
        self.assertEqual(ONE_STATE.worth(""), -2)
        self.assertEqual(VALUE.table(""), ((1, 0), (0, 1)))

    def test_without_states(self):
        self.assertEqual((EMPTY.row("01"), EMPTY.worth("01"), EMPTY.table("01")), ((), 0, ()))
        self.assertEqual((EMPTY.row(""), EMPTY.worth(""), EMPTY.table("")), ((), 0, ()))

    def test_as_the_document_tells_worths(self):
        for seed in range(30):
            tally = made_up_tally(seed, "12", size=seed % 5, low=-9, high=9)
            for ticket in brute_tickets("12", 4):
                self.assertEqual(tally.worth(ticket), brute_worth(tally, ticket))
                table = tally.table(ticket)
                led = tuple(sum(a * row[j] for a, row in zip(tally.start, table)) for j in range(len(tally)))
                self.assertEqual(tally.row(ticket), led)

    def test_ten_digits_and_forty_places(self):
        tables = tuple(((10, digit), (0, 1)) for digit in range(10))
        reads = Tally("0123456789", (0, 1), tuple(((10, 0), (digit, 1)) for digit in range(10)), (1, 0))
        self.assertEqual(reads.worth("1234567890" * 4), int("1234567890" * 4))
        self.assertEqual(Tally("0123456789", (1, 0), tables, (1, 0)).worth("9" * 40), 10 ** 40)

    def test_no_tickets(self):
        for thing in ODDITIES + ("2", "0 1", "01\n", ["0", "1"], ("0", "1")):
            for told in (ONES.row, ONES.worth, ONES.table, EMPTY.row, EMPTY.worth, EMPTY.table):
                with self.assertRaises(BadTicket) as caught:
                    told(thing)
                self.assertIs(caught.exception.ticket, thing)

    def test_by_name(self):
        self.assertEqual((ONES.row(ticket="1"), ONES.worth(ticket="1"), ONES.table(ticket="1")),
                         ((1, 1), 1, ((1, 1), (0, 1))))


class CountTest(unittest.TestCase):
    def test_counts(self):
        for tally in (ONES, VALUE, EMPTY, times(0, ONES)):
            self.assertIs(tally.is_count, True)

    def test_a_number_below_nought_anywhere(self):
        self.assertIs(ONE_STATE.is_count, False)
        self.assertIs(Tally("0", (-1,), (((3,),),), (1,)).is_count, False)
        self.assertIs(Tally("0", (1, 0), (((0, 0), (-1, 0)),), (1, 1)).is_count, False)
        self.assertIs(Tally("01", (1,), (((1,),), ((-1,),)), (1,)).is_count, False)


class TextTest(unittest.TestCase):
    def bad(self, line, text):
        with self.assertRaises(BadText) as caught:
            Tally.read(text)
        self.assertEqual(caught.exception.line, line, repr(text))

    def test_example(self):
        self.assertEqual(str(ONE_STATE), "tally 0\nstart 2\ntable 0\n3\nends -1")

    def test_text_of_ones(self):
        self.assertEqual(str(ONES), "tally 01\nstart 1 0\ntable 0\n1 0\n0 1\ntable 1\n1 1\n0 1\nends 0 1")

    def test_without_states(self):
        self.assertEqual(str(EMPTY), "tally 01\nstart\ntable 0\ntable 1\nends")
        self.assertEqual(Tally.read("tally 01\nstart\ntable 0\ntable 1\nends"), EMPTY)

    def test_read_back(self):
        for seed in range(20):
            tally = made_up_tally(seed, "0369", size=seed % 6, low=-99, high=99)
            self.assertEqual(Tally.read(str(tally)), tally)
        self.assertEqual(Tally.read(text=str(ONES)), ONES)

    def test_great_numbers(self):
        self.assertEqual(Tally.read(str(GREAT)), GREAT)
        self.assertEqual(str(GREAT).split("\n")[1], "start 1" + "0" * 4999 + "7 -1" + "0" * 4321)

    def test_numbers_around_what_is_written_at_once(self):
        for number in [10 ** k + d for k in (1, 17, 59, 60, 61, 119, 120, 180) for d in (-1, 0, 1)]:
            for signed in (number, -number):
                tally = Tally("0", (signed,), (((0,),),), (1,))
                self.assertEqual(str(tally), f"tally 0\nstart {signed}\ntable 0\n0\nends 1")
                self.assertEqual(Tally.read(str(tally)), tally)

    def test_no_strings(self):
        for thing in ODDITIES:
            if not isinstance(thing, str):
                self.bad(-1, thing)
        self.bad(-1, str(ONES).split("\n"))

    def test_first_line(self):
        for line in ("", "tally", "tally ", "tally  01", " tally 01", "tally 01 ", "tally 10", "tally 0 1", "tally 00",
                     "Tally 01", "tally 0a", "tally 01\r", "tally\t01", "tallies 01"):
            self.bad(0, line + str(ONES)[8:])

    def test_start(self):
        for line in ("start", "start 1", "start 1 0 0", "start 1 0 ", "start  1 0", "start 1  0", " start 1 0", "1 0",
                     "ends 1 0", "start 1 -0", "start 01 0", "start +1 0", "start 1 a", "start 1_0 0", "start 1.0 0",
                     "start - 0", "start --1 0", "start 1,0", "starts 1 0", "start\n1 0", ""):
            expected = {"start": 3, "start 1": 3, "start 1 0 0": 3, "start\n1 0": 2}.get(line, 1)
            self.bad(expected, str(ONES).replace("start 1 0", line))

    def test_tables(self):
        lines = str(ONES).split("\n")
        for number, wrong in ((2, "table 1"), (2, "table"), (2, "table 0 "), (2, "1 0"), (2, "tables 0"), (2, "table 01"),
                              (3, "1"), (3, "1 0 0"), (3, "1 0 "), (3, " 1 0"), (3, "1  0"), (3, ""), (3, "table 1"),
                              (4, "0 x"), (4, "0 -"), (4, "00 1"), (5, "table 0"), (5, "ends 0 1"), (7, "ends 0 1")):
            self.bad(number, "\n".join(lines[:number] + [wrong] + lines[number + 1:]))

    def test_ends(self):
        for line in ("ends", "ends 0", "ends 0 1 2", "ends 0 1 ", "ends 0  1", "end 0 1", "0 1", "", "ends 0 -0"):
            self.bad(8, str(ONES).replace("ends 0 1", line))
        self.bad(4, "tally 01\nstart\ntable 0\ntable 1\nends 0")
        self.bad(4, "tally 01\nstart\ntable 0\ntable 1\nends ")
        self.bad(3, "tally 01\nstart\ntable 0\n\ntable 1\nends")

    def test_missing_lines(self):
        lines = str(ONES).split("\n")
        for many in range(1, len(lines)):
            self.bad(many, "\n".join(lines[:many]))
            self.bad(many, "\n".join(lines[:many]) + "\n")
        self.bad(0, "")

    def test_lines_too_many(self):
        self.bad(9, str(ONES) + "\n")
        self.bad(9, str(ONES) + "\n\n\n")
        self.bad(9, str(ONES) + "\nends 0 1")
        self.bad(5, str(EMPTY) + "\n")
        self.bad(0, "\n" + str(ONES))

    def test_a_line_left_out(self):
        lines = str(ONES).split("\n")
        for number in range(len(lines)):
            left = "\n".join(lines[:number] + lines[number + 1:])
            expected = {3: 4, 6: 7}.get(number, number)
            self.bad(expected, left)

    def test_spoiled_texts_are_read_strictly(self):
        chance = random.Random(5)
        for _ in range(2000):
            text = str(made_up_tally(chance.randrange(50), "01", size=chance.randrange(3)))
            place = chance.randrange(len(text))
            text = text[:place] + chance.choice(("", " ", "-", "0", "\n", "1", "x")) + text[place + chance.randrange(2):]
            try:
                found = Tally.read(text)
            except BadText as error:
                self.assertIn(error.line, range(text.count("\n") + 2))
            else:
                self.assertEqual(str(found), text)
