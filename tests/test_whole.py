"""What the document's guarantee says of several parts at once."""

import random
import unittest

from tallyhouse.answers import how_many
from tallyhouse.bounds import is_bounded, worths_of
from tallyhouse.caps import is_within, least_cap
from tallyhouse.console import Console
from tallyhouse.errors import TallyError, Unkept
from tallyhouse.findings import finding_holds
from tallyhouse.growthpapers import judge_growth
from tallyhouse.house import House
from tallyhouse.leasts import least, rank
from tallyhouse.madeof import is_made_of
from tallyhouse.making import added, times
from tallyhouse.powers import degree
from tallyhouse.prices import Book, are_prices
from tallyhouse.prizes import greatest
from tallyhouse.promises import fault_of
from tallyhouse.ranges import beginnings, block_sum, range_sum, roll_sum, steps, sums, ticket_ahead
from tallyhouse.sales import Till
from tallyhouse.sames import are_same, first_apart
from tallyhouse.takings import takings
from tallyhouse.told import rest_and_step
from tallyhouse.wider import merged, read_through
from tests.samples import BOTH, DIGITSUM, LENGTH, ODD, ONE, ONES, PAIRS, VALUE, ZEROS, made_up_count, made_up_tally

COUNTS = [ONES, VALUE, LENGTH, ODD, PAIRS, BOTH, DIGITSUM, ONE] + [made_up_count(seed, digits, 2, 2, 0.4)
                                                                  for seed in range(4) for digits in ("01", "038")]


def command_text(tally):
    return str(tally).replace("\n", ";")


def written(ticket):
    return ticket or "-"


def outcome(call, *arguments):
    try:
        return call(*arguments)
    except TallyError as error:
        return error.__class__.__name__


class SumsTest(unittest.TestCase):
    def test_sums_by_all_parts(self):
        chance = random.Random(1)
        for tally in COUNTS:
            console = Console()
            console.run("keep t " + command_text(tally))
            for length in (0, 1, 2, 5, 40):
                low, high = sorted("".join(chance.choice(tally.digits) for _ in range(length)) for _ in range(2))
                found = range_sum(tally, low, high)
                summed = sums(tally)
                till = Till(tally)
                self.assertEqual(till.would_pay(low, high), found)
                self.assertEqual(till.sell(low, high), found)
                self.assertEqual((till.takings(), till.would_pay(low, high)), (found, 0))
                before = ticket_ahead(tally.digits, low)
                self.assertEqual(summed.worth(high) - (0 if before is None else summed.worth(before)), found)
                self.assertEqual(sum(block_sum(tally, head, length) for head in beginnings(tally.digits, low, high)), found)
                self.assertEqual(console.run(f"sum t {written(low)} {written(high)}"), str(found))
                self.assertIs(finding_holds(("sum", str(tally), low, high, found)), True)
                self.assertIs(finding_holds(("sum", str(tally), low, high, found + 1)), False)
                # the ends of the tally are prices of a book that has been told this sum, and of no other one
                book = Book(tally, ((low, high, found),))
                self.assertIs(are_prices(book, tally.ends), True)
                self.assertIs(are_prices(Book(tally, ((low, high, found + 1),)), tally.ends), False)
                rest, step = rest_and_step(book, high)
                self.assertEqual((tally.worth(high) - rest) % step if step else tally.worth(high) - rest, 0)
                self.assertEqual(console.run(f"tell t {written(low)} {written(high)} {found}"), "ok")
                self.assertEqual(console.run(f"worths t {written(high)}"), f"{rest} {step}")
                console.run("undo")
                first, last = tally.digits[0] * length, tally.digits[-1] * length
                self.assertEqual(console.run(f"roll t {length}"), str(roll_sum(tally, length)))
                till.trial().take_back(low, high)
                self.assertEqual(till.would_pay(first, last), roll_sum(tally, length) - found)

    def test_takings_by_all_parts(self):
        for tally in COUNTS:
            console = Console()
            console.run("keep t " + command_text(tally))
            for ticket in ("", tally.digits[0] * 3, tally.digits[-1] + tally.digits[0], tally.digits[0] * 30):
                last = tally.digits[-1] * len(ticket)
                for amount in (1, 2, 7, 100):
                    paper = takings(tally, ticket, amount)
                    self.assertIs(finding_holds(("takings", str(tally), ticket, amount, paper)), True)
                    words = "".join(" " + (written(part) if isinstance(part, str) else str(part)) for part in paper[1:])
                    self.assertEqual(console.run(f"takings t {written(ticket)} {amount}"), paper[0] + words)
                    till = Till(tally)
                    if paper[0] == "never":
                        self.assertEqual(till.sell(ticket, last), paper[1])
                        self.assertLess(paper[1], amount)
                    else:
                        self.assertGreaterEqual(till.sell(ticket, paper[1]), amount)
                        self.assertEqual(till.takings() - till.take_back(paper[1], paper[1]), paper[2])
                        self.assertEqual(till.takings(), paper[2])
                        self.assertLess(paper[2], amount)

    def test_steps_of_sums_are_the_tally(self):
        for tally in COUNTS + [made_up_tally(seed, "01", 2) for seed in range(3)]:
            self.assertTrue(are_same(steps(sums(tally)), tally))
            self.assertTrue(are_same(sums(steps(tally)), tally))
            self.assertEqual(least(steps(sums(tally))), least(tally))


class PromisesTest(unittest.TestCase):
    def test_one_and_the_same_of_a_promise(self):
        tallies = {"ones": ONES, "zeros": ZEROS, "len": LENGTH, "one": ONE, "odd": ODD, "value": VALUE, "below": times(-1, ONES)}
        promises = [("rank", 1), ("rank", 2), ("cap", 1), ("cap", 0), ("degree", 0), ("degree", 1), ("sums", 0), ("sums", 1),
                    ("made of", ("zother",))]
        words = {"made of": "made "}
        for name, tally in tallies.items():
            for promise in promises:
                for other in tallies.values():
                    house, console = House(), Console()
                    for word, kept in (("t", tally), ("zother", ONES)):
                        house.keep(word, kept)
                        console.run(f"keep {word} {command_text(kept)}")
                    fault = fault_of(tally, promise, tally, (ONES,))
                    made = outcome(house.make_promise, "t", promise)
                    told = promise[1] if isinstance(promise[1], int) else ",".join(promise[1])
                    answer = console.run(f"promise t {words.get(promise[0], promise[0] + ' ')}{told}")
                    self.assertEqual((made is None, answer == "ok"), (fault is None, fault is None))
                    if fault is not None:
                        self.assertEqual((made, answer), ("Unkept", "unkept"))
                        self.check_findings(tally, promise, fault)
                        continue
                    fault = fault_of(other, promise, tally, (ONES,))
                    found = house.gate("t", other)
                    self.assertEqual(found, None if fault is None else ("t", promise, fault))
                    self.assertEqual(console.run("edition t " + command_text(other)), "ok" if fault is None else "unkept")
                    if fault is None:
                        self.assertIsNone(house.add_edition("t", other))
                    else:
                        with self.assertRaises(Unkept) as caught:
                            house.add_edition("t", other)
                        error = caught.exception
                        self.assertEqual((error.name, error.promise, error.fault), found)
                        self.check_findings(other, promise, fault)
                    self.assertTrue(console.house_now() == house)
                    self.assertEqual(console.house_now().log(), house.log())

    def check_findings(self, tally, promise, fault):
        text = str(tally)
        if fault[0] == "rank":
            self.assertIs(finding_holds(("rank", text, fault[1])), True)
        elif promise[0] == "cap" and fault[0] == "above":
            self.assertIs(finding_holds(("cap", text, promise[1], fault)), True)
        elif promise[0] == "degree" and fault[0] != "below":
            self.assertIs(finding_holds(("growth", text, fault)), True)
        elif promise[0] == "made of":
            self.assertIs(finding_holds(("made of", text, (str(ONES),), fault)), True)
        elif fault[0] == "below":
            self.assertIs(tally.is_count, False)
            self.assertIs(finding_holds(("growth", text, judge_growth(ONES))), False)

    def test_the_console_tells_what_promises_say(self):
        for tally in COUNTS:
            console = Console()
            console.run("keep t " + command_text(tally))
            grows, cap = degree(tally), least_cap(tally)
            for most in range(4):
                kept = grows is not None and grows <= most
                self.assertEqual(console.run(f"promise t degree {most}"), "ok" if kept else "unkept")
                self.assertEqual(console.run(f"promise t rank {most}"), "ok" if rank(tally) <= most else "unkept")
                self.assertEqual(console.run(f"promise t cap {most}"), "ok" if is_within(tally, most) else "unkept")
                self.assertEqual(is_within(tally, most), cap is not None and cap <= most)
            self.assertEqual(console.run("growth t"), "doubles" if grows is None else f"power {grows}")

    def test_growth_bounds_caps_and_prizes_agree(self):
        for tally in COUNTS:
            bounded = is_bounded(tally)
            self.assertEqual(bounded, degree(tally) == 0)
            self.assertEqual(bounded, least_cap(tally) is not None)
            if bounded:
                self.assertEqual(worths_of(tally)[-1], least_cap(tally))
                self.assertLessEqual(greatest(tally, 9), least_cap(tally))
                self.assertEqual(sum(how_many(tally, number, 6) for number in worths_of(tally)), len(tally.digits) ** 6)


class SameTest(unittest.TestCase):
    def test_the_same_exactly_if_the_least_ones_are_equal(self):
        tallies = COUNTS + [added(VALUE, times(0, ONES)), times(1, ONES), read_through(LENGTH, ("01", ("0", "1")))]
        for one in tallies:
            for other in tallies:
                if one.digits != other.digits:
                    continue
                alike = are_same(one, other)
                self.assertEqual(alike, least(one) == least(other))
                self.assertEqual(alike, first_apart(one, other) is None)
                self.assertEqual(alike, fault_of(one, ("sums", 0), other, ()) is None)
                console = Console()
                console.run("keep a " + command_text(one))
                console.run("keep b " + command_text(other))
                self.assertEqual(console.run("same a b").split(" ")[0], "same" if alike else "apart")
                self.assertEqual(console.run("least a") == console.run("least b"), alike)
                self.assertEqual(console.run("made a b"), "yes" if is_made_of(one, (other,)) else "no")

    def test_roll_sums_stay_when_digits_are_merged(self):
        for tally in COUNTS:
            found = merged(tally, tally.digits[0], tally.digits[1])
            till, other = Till(tally), Till(found)
            first, last = tally.digits[0] * 6, tally.digits[-1] * 6
            low, high = found.digits[0] * 6, found.digits[-1] * 6
            self.assertEqual(till.sell(first, last), other.sell(low, high))
