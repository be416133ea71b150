import random
import unittest

from tallyhouse.answers import how_many, machine
from tallyhouse.asked import is_cheapest, to_ask
from tallyhouse.bookfindings import book_finding_holds
from tallyhouse.bounds import bounds_hold, is_bounded, judge_bounds
from tallyhouse.caps import cap_holds, judge_cap
from tallyhouse.findings import finding_holds
from tallyhouse.growthfindings import growth_finding_holds
from tallyhouse.growthpapers import growth_holds, judge_growth
from tallyhouse.leasts import least, rank
from tallyhouse.madeof import by_fractions_hold, judge_by_fractions, judge_made_of, made_of_holds
from tallyhouse.making import added, multiplied, times
from tallyhouse.prices import Book, book_holds, can_be, judge_book, suspects
from tallyhouse.prizes import greatest_holds, judge_greatest, judge_lowest, lowest_holds
from tallyhouse.relations import judge_relations, relations_hold
from tallyhouse.rewriters import Rewriter, kept, through, up_to
from tallyhouse.rowfindings import row_finding_holds
from tallyhouse.sames import are_same, judge_same, same_holds
from tallyhouse.singles import judge_single, single_holds
from tallyhouse.takings import takings
from tallyhouse.tallies import Tally
from tallyhouse.told import all_holds, judge_all, judge_worths, worths_hold
from tallyhouse.wider import length_apart, length_apart_holds, order_apart, order_apart_holds, symmetries
from tests.book_samples import BOOK, BOOKS, EIGHT, THREE
from tests.samples import (BOTH, DIGITSUM, EMPTY, EVEN, LENGTH, ODD, ODDITIES, ONE, ONES, PAIRS, TWICE, TWOS, VALUE, ZEROS,
                           brute_roll, brute_worth, made_up_count, made_up_tally, spoiled)

BELOW = times(-1, ONES)
TALLIES = [ONES, VALUE, DIGITSUM, EMPTY, LENGTH, ODD, PAIRS, TWOS, BELOW, made_up_tally(3, "012", 3), made_up_tally(4, "57", 2)]
COUNTS = [ONES, VALUE, EMPTY, LENGTH, ODD, PAIRS, BOTH, TWOS, EVEN, made_up_count(3, "012", 3, 1, 0.6)]


def row_findings():
    for tally in TALLIES:
        text = str(tally)
        for ticket in ("", tally.digits[-1] * 3, tally.digits):
            yield "worth", text, ticket, tally.worth(ticket)
        yield "same", text, str(added(tally, EMPTY if tally.digits == "01" else times(0, tally))), judge_same(
            tally, added(tally, EMPTY if tally.digits == "01" else times(0, tally)))
        yield "rank", text, rank(tally)
        yield "least", text, str(least(tally))
        low, high = tally.digits[0] * 2, tally.digits[-1] * 2
        yield "sum", text, low, high, sum(brute_worth(tally, ticket) for ticket in brute_roll(tally.digits, 2))
        for rewriter in (kept(tally.digits), up_to(tally.digits)):
            yield "through", text, str(rewriter), str(least(through(tally, rewriter)))
        yield "relations", (text, str(times(2, tally))), judge_relations((tally, times(2, tally)))[1], judge_relations(
            (tally, times(2, tally)))[2]
        for goal in (times(4, tally), times(3, tally)):
            given = (times(2, tally), goal)
            yield "made of", str(tally), tuple(map(str, given)), judge_made_of(tally, given)
            yield "made of", str(goal), tuple(map(str, given[:1])), judge_made_of(goal, given[:1])
            yield "by fractions", str(tally), tuple(map(str, given)), judge_by_fractions(tally, given)
    yield "same", str(ONES), str(VALUE), judge_same(ONES, VALUE)
    yield "through", str(VALUE), str(TWICE), str(through(VALUE, TWICE))
    yield "by fractions", str(ONE), (str(ONES), str(LENGTH)), judge_by_fractions(ONE, (ONES, LENGTH))
    for rewriter in (TWICE, kept("012"), up_to("01"), Rewriter("01", "0", 2, ((0, "0", "0", 0), (0, "0", "0", 1)), (0,))):
        yield "single", str(rewriter), judge_single(rewriter)
    for tally in (ONES, LENGTH, PAIRS, TWOS, EMPTY):
        for amount in (1, 3, 10 ** 39):
            ticket = tally.digits[0] * 2
            yield "takings", str(tally), ticket, amount, takings(tally, ticket, amount)


def growth_findings():
    for tally in COUNTS:
        text = str(tally)
        yield "growth", text, judge_growth(tally)
        for cap in (0, 1, 3):
            yield "cap", text, cap, judge_cap(tally, cap)
        for length in (0, 1, 3):
            yield "greatest", text, length, judge_greatest(tally, length)
            yield "lowest", text, length, judge_lowest(tally, length)
    for tally in TALLIES + [EVEN, times(-1, ODD), added(ODD, times(-2, ODD))]:
        yield "bounds", str(tally), judge_bounds(tally)
        if is_bounded(tally):
            yield ("machine", str(tally)) + machine(tally)
            for number, length in ((0, 0), (1, 3), (7, 2), (-1, 60)):
                yield "how many", str(tally), number, length, how_many(tally, number, length)


def book_findings():
    for book in BOOKS[::3] + [BOOK, THREE, EIGHT]:
        text = str(book.tally)
        yield "book", text, book.told, judge_book(book)
        if can_be(book):
            for ticket in ("", book.tally.digits[-1] * 2):
                yield "worths", text, book.told, ticket, judge_worths(book, ticket)
        yield "all told", text, book.told, judge_all(book)
        yield "lot", text, book.told, to_ask(book)
        yield "suspects", text, book.told, suspects(book)
    for tally in TALLIES:
        if order_apart(tally):
            yield "alike", str(tally), "order", order_apart(tally)
        if length_apart(tally):
            yield "alike", str(tally), "length", length_apart(tally)
        yield "symmetries", str(tally), symmetries(tally)


ROWS, GROWTHS, OF_BOOKS = list(row_findings()), list(growth_findings()), list(book_findings())


def tally_in(text):
    """The tally of a text, by the words of the document, None if it is none."""
    if type(text) is not str:
        return None
    try:
        tally = Tally.read(text)
    except Exception:
        return None
    return tally if str(tally) == text else None


def rewriter_in(text):
    try:
        return Rewriter.read(text)
    except Exception:
        return None


def tallies_in(texts):
    if type(texts) is not tuple or not texts or any(tally_in(text) is None for text in texts):
        return None
    found = tuple(map(tally_in, texts))
    return found if len({tally.digits for tally in found}) == 1 else None


def is_over(tally, thing):
    return type(thing) is str and set(thing) <= set(tally.digits)


def is_right(thing):
    """Whether a value is a finding that holds, by the words of the document."""
    if type(thing) is not tuple or not thing or type(thing[0]) is not str:
        return False
    word, parts = thing[0], thing[1:]
    sizes = {"worth": 3, "same": 3, "rank": 2, "least": 2, "sum": 4, "through": 3, "single": 2, "takings": 4, "relations": 3,
             "made of": 3, "by fractions": 3, "growth": 2, "bounds": 2, "cap": 3, "machine": 3, "how many": 4, "greatest": 3,
             "lowest": 3, "book": 3, "worths": 4, "all told": 3, "lot": 3, "suspects": 3, "alike": 3, "symmetries": 2}
    if word not in sizes or len(parts) != sizes[word]:
        return False
    if word == "single":
        rewriter = rewriter_in(parts[0])
        return rewriter is not None and single_holds(rewriter, parts[1])
    if word == "relations":
        given = tallies_in(parts[0])
        return given is not None and relations_hold(given, ("relations", parts[1], parts[2]))
    tally = tally_in(parts[0])
    if tally is None:
        return False
    if word in ("growth", "cap", "greatest", "lowest", "takings") and "-" in parts[0]:
        return False
    return is_right_of(word, tally, parts)


def is_right_of(word, tally, parts):
    last = parts[-1]
    if word == "worth":
        return is_over(tally, parts[1]) and type(last) is int and brute_worth(tally, parts[1]) == last
    if word == "rank":
        return type(last) is int and rank(tally) == last
    if word == "least":
        return type(last) is str and last == str(least(tally))
    if word == "sum":
        low, high = parts[1:3]
        if not is_over(tally, low) or not is_over(tally, high) or len(low) != len(high) or low > high or len(low) > 4:
            return False
        found = sum(brute_worth(tally, ticket) for ticket in brute_roll(tally.digits, len(low)) if low <= ticket <= high)
        return type(last) is int and found == last
    if word == "takings":
        ticket, amount = parts[1:3]
        if not is_over(tally, ticket) or type(amount) is not int or amount < 1 or type(last) is not tuple:
            return False
        return last == takings(tally, ticket, amount) and [type(part) for part in last[1:]] in ([int], [str, int])
    if word in ("same", "through"):
        other = tally_in(parts[1] if word == "same" else last)
        if other is None:
            return False
        if word == "same":
            return other.digits == tally.digits and same_holds(tally, other, last)
        rewriter = rewriter_in(parts[1])
        return (rewriter is not None and rewriter.written == tally.digits and rewriter.digits == other.digits
                and are_same(through(tally, rewriter), other))
    if word in ("made of", "by fractions"):
        given = tallies_in(parts[1])
        if given is None or given[0].digits != tally.digits:
            return False
        return (made_of_holds if word == "made of" else by_fractions_hold)(tally, given, last)
    if word in ("growth", "bounds"):
        return (growth_holds if word == "growth" else bounds_hold)(tally, last)
    if word in ("cap", "greatest", "lowest"):
        if type(parts[1]) is not int or parts[1] < 0:
            return False
        return {"cap": cap_holds, "greatest": greatest_holds, "lowest": lowest_holds}[word](tally, parts[1], last)
    if word in ("machine", "how many"):
        if not is_bounded(tally):
            return False
        if word == "machine":
            return repr((parts[1], last)) == repr(machine(tally))
        number, length = parts[1:3]
        if any(type(part) is not int for part in parts[1:]) or not 0 <= length <= 70:
            return False
        return how_many(tally, number, length) == last
    return is_right_of_books(word, tally, parts)


def is_right_of_books(word, tally, parts):
    last = parts[-1]
    if word == "alike":
        return {"order": order_apart_holds, "length": length_apart_holds}[parts[1]](tally, last) if (
            type(parts[1]) is str and parts[1] in ("order", "length")) else False
    if word == "symmetries":
        return type(last) is tuple and last == symmetries(tally)
    try:
        book = Book(tally, parts[1])
    except Exception:
        return False
    if word == "book":
        return book_holds(book, last)
    if word == "worths":
        return is_over(tally, parts[2]) and worths_hold(book, parts[2], last)
    if word == "all told":
        return all_holds(book, last)
    if word == "suspects":
        return repr(last) == repr(suspects(book))
    if type(last) is not tuple or not all(is_over(tally, ticket) for ticket in last):
        return False
    keys = [(len(ticket), ticket) for ticket in last]
    return keys == sorted(set(keys)) and is_cheapest(book, last)


class FindingsTest(unittest.TestCase):
    def test_examples(self):
        self.assertIs(finding_holds(("worth", str(ONES), "011", 2)), True)
        self.assertIs(finding_holds(("rank", str(ONES), 3)), False)

    def test_findings_that_hold(self):
        for findings, own, others in ((ROWS, row_finding_holds, (growth_finding_holds, book_finding_holds)),
                                      (GROWTHS, growth_finding_holds, (row_finding_holds, book_finding_holds)),
                                      (OF_BOOKS, book_finding_holds, (row_finding_holds, growth_finding_holds))):
            for finding in findings:
                self.assertIs(own(thing=finding), True, repr(finding))
                self.assertIs(finding_holds(thing=finding), True)
                self.assertTrue(is_right(finding))
                for other in others:
                    self.assertIs(other(finding), False)

    def test_both_kinds_are_there(self):
        kinds = {(finding[0], finding[-1][0]) for finding in ROWS + GROWTHS + OF_BOOKS
                 if type(finding[-1]) is tuple and finding[-1] and type(finding[-1][0]) is str and finding[0] not in (
                     "lot", "symmetries", "relations")}
        self.assertLessEqual({("same", "same"), ("same", "apart"), ("single", "single"), ("single", "two"), ("takings", "at"),
                              ("takings", "never"), ("made of", "made"), ("made of", "barred"), ("by fractions", "made"),
                              ("by fractions", "barred"), ("growth", "doubles"), ("growth", "power"), ("bounds", "bounded"),
                              ("bounds", "ever"), ("cap", "within"), ("cap", "above"), ("greatest", "greatest"),
                              ("lowest", "lowest"), ("book", "can"), ("book", "cannot"), ("worths", "worths"),
                              ("all told", "all"), ("all told", "open"), ("alike", "apart")}, kinds)

    def test_findings_with_something_otherwise(self):
        chance = random.Random(21)
        found = {}
        for finding in ROWS + GROWTHS + OF_BOOKS:
            for _ in range(4):
                thing = spoiled(finding, chance)
                right = is_right(thing)
                found.setdefault(finding[0], set()).add(right)
                self.assertIs(finding_holds(thing), right, repr(thing))
        self.assertEqual([word for word in found if False not in found[word]], [])
        self.assertGreater(len([word for word in found if True in found[word]]), 8)

    def test_a_part_of_another_kind(self):
        chance = random.Random(22)
        for findings in (ROWS, GROWTHS, OF_BOOKS):
            for finding in findings:
                for place in range(len(finding)):
                    for other in chance.sample(ODDITIES, 4):
                        thing = finding[:place] + (other,) + finding[place + 1:]
                        self.assertIs(finding_holds(thing), is_right(thing), repr(thing))
                # parts of another finding of the same sort
                other = chance.choice(findings)
                if other[0] == finding[0] and len(other) == len(finding):
                    place = chance.randrange(1, len(finding))
                    thing = finding[:place] + (other[place],) + finding[place + 1:]
                    self.assertIs(finding_holds(thing), is_right(thing), repr(thing))
                self.assertIs(finding_holds(finding[:-1]), False)
                self.assertIs(finding_holds(finding + (0,)), False)
                self.assertIs(finding_holds(list(finding)), False)
                self.assertIs(finding_holds((finding[0] + " ",) + finding[1:]), False)

    def test_texts_that_are_none(self):
        for finding in ROWS + GROWTHS + OF_BOOKS:
            text = finding[1]
            if type(text) is str:
                for other in (text + "\n", text + " ", " " + text, text.replace("tally", "Tally").replace("rew", "Rew"), "",
                              text.replace("\n", ";"), text.replace("\n", "\n\n", 1), text.split("\n")[0], None, 0):
                    self.assertIs(finding_holds((finding[0], other) + finding[2:]), False)
        given = (str(ONES), str(LENGTH))
        paper = judge_made_of(ONES, (ONES, LENGTH))
        self.assertIs(finding_holds(("made of", str(ONES), given, paper)), True)
        for texts in (list(given), given + (None,), given + (str(DIGITSUM),), (), str(ONES), (ONES, LENGTH),
                      (str(DIGITSUM), str(DIGITSUM)), given[:1], given + ("",)):
            self.assertIs(finding_holds(("made of", str(ONES), texts, paper)), False)
        self.assertIs(finding_holds(("relations", (), (), ())), False)
        self.assertIs(finding_holds(("relations", (str(ONES), str(DIGITSUM)), (), ("1",))), False)

    def test_other_digits(self):
        self.assertIs(finding_holds(("same", str(EMPTY), str(Tally("02", (), ((), ()), ())), ("same", ()))), False)
        self.assertIs(finding_holds(("through", str(VALUE), str(kept("012")), str(VALUE))), False)
        self.assertIs(finding_holds(("through", str(VALUE), str(kept("01")), str(DIGITSUM))), False)
        self.assertIs(finding_holds(("through", str(VALUE), str(kept("01")), str(VALUE))), True)
        wide = str(Rewriter("01", "012", 1, ((0, "0", "0", 0), (0, "1", "2", 0)), (0,)))
        self.assertIs(finding_holds(("through", str(VALUE), wide, str(VALUE))), False)
        self.assertIs(finding_holds(("through", str(DIGITSUM), wide, str(times(2, ONES)))), True)
        self.assertIs(finding_holds(("made of", str(DIGITSUM), (str(ONES),), ("made", (0,)))), False)
        self.assertIs(finding_holds(("by fractions", str(DIGITSUM), (str(ONES),), ("made", ((0, 1),)))), False)

    def test_counts_are_asked(self):
        zero = str(Tally("0", (-1,), (((0,),),), (0,)))
        plain = str(Tally("0", (1,), (((0,),),), (0,)))
        for text, right in ((plain, True), (zero, False)):
            for finding in (("growth", text, ("power", (), (), "")), ("cap", text, 0, ("within", ((0,),))),
                            ("greatest", text, 0, ("greatest", "", (((0,),),))), ("takings", text, "0", 1, ("never", 0)),
                            ("lowest", text, 0, ("lowest", "", (((0,),),)))):
                self.assertIs(finding_holds(finding), right, repr(finding))
            for finding in (("worth", text, "0", 0), ("rank", text, 0), ("bounds", text, ("bounded", ((),))),
                            ("machine", text, ((0,),), (0,)), ("how many", text, 0, 9, 1)):
                self.assertIs(finding_holds(finding), True)

    def test_numbers_that_are_none(self):
        one = str(ONE)
        for number, right in ((1, True), (True, False), ("1", False), (1.0, False), (None, False), (2, False)):
            self.assertIs(finding_holds(("worth", one, "", number)), right)
            self.assertIs(finding_holds(("rank", one, number)), right)
            self.assertIs(finding_holds(("sum", one, "0", "0", number)), right)
            self.assertIs(finding_holds(("how many", one, number, 0, 1)), right)
            self.assertIs(finding_holds(("how many", one, 1, 0, number)), right)
        for length, right in ((0, True), (False, False), (-1, False), ("", False), (None, False), (10 ** 39, False)):
            self.assertIs(finding_holds(("how many", one, 1, length, 1)), right)
            self.assertIs(finding_holds(("greatest", one, length, ("greatest", "", (((1,),),)))), right)
            self.assertIs(finding_holds(("lowest", one, length, ("lowest", "", (((1,),),)))), right)
        for cap, right in ((1, True), (True, False), (0, False), (-1, False), ("1", False), (2, True), (10 ** 39, True)):
            self.assertIs(finding_holds(("cap", one, cap, ("within", ((1,),)))), right)
        for amount, right in ((3, True), (True, False), (0, False), (-3, False), ("3", False), (2, False), (10 ** 39, True)):
            self.assertIs(finding_holds(("takings", one, "00", amount, ("at", "10", 2) if amount == 3 else ("never", 4))), right)
        for amount in (0, -1, -10 ** 39):
            self.assertIs(finding_holds(("takings", one, "00", amount, ("at", "00", 0))), False)

    def test_machines(self):
        self.assertIs(finding_holds(("machine", str(ODD), ((0, 1), (1, 0)), (0, 1))), True)
        for moves, worths in ((((0, 1), (1, 0)), (1, 0)), (((1, 0), (0, 1)), (0, 1)), (((0, 1), (1, False)), (0, 1)),
                              (((0, 1), (1, 0)), (0, True)), (((0, 1), [1, 0]), (0, 1)), ([(0, 1), (1, 0)], (0, 1)), ((), ()),
                              (((0, 1), (1, 0)), [0, 1]), (((0, 1), (2, 0), (1, 2)), (0, 1, 1)), (((0, 0),), (0,)), (None, None)):
            self.assertIs(finding_holds(("machine", str(ODD), moves, worths)), False, repr((moves, worths)))
        for tally in (ONES, VALUE, BELOW):
            self.assertIs(finding_holds(("machine", str(tally), ((0, 1), (1, 1)), (0, 1))), False)
            self.assertIs(finding_holds(("how many", str(tally), 0, 1, 1)), False)

    def test_lots_and_suspects(self):
        text = str(ONES)
        for lot, right in ((("",), True), (("1",), False), ((), False), (("", "1"), False), ([""], False), ("", False), (None, False)):
            self.assertIs(finding_holds(("lot", text, BOOK.told, lot)), right)
        self.assertIs(finding_holds(("lot", text, (), ("", "1"))), True)
        self.assertIs(finding_holds(("lot", text, (), ("1", ""))), False)
        for numbers, right in (((0, 1, 2), True), ([0, 1, 2], False), ((0, 1), False), ((False, True, 2), False), ((), False),
                               ((2, 1, 0), False), (None, False)):
            self.assertIs(finding_holds(("suspects", text, THREE.told, numbers)), right)
        self.assertIs(finding_holds(("suspects", text, BOOK.told, ())), True)
        for told in (None, list(BOOK.told), BOOK.told + (None,), (("01", "00", 5),), (("00", "01", True),), BOOK, "", 0):
            for finding in (("suspects", text, told, ()), ("lot", text, told, ("",)), ("book", text, told, ("can", (0, 5))),
                            ("all told", text, told, ("open", "", (0, 0), (1, -2))),
                            ("worths", text, told, "0", ("worths", 0, 1, (0, 5), (1, 3), ((0, 1),)))):
                self.assertIs(finding_holds(finding), False, repr(finding))

    def test_alike_and_symmetries(self):
        for word, right in (("length", True), ("order", False), ("Length", False), ("", False), (None, False), (["length"], False)):
            self.assertIs(finding_holds(("alike", str(DIGITSUM), word, ("apart", "", "0", "1", ""))), right)
        self.assertIs(finding_holds(("alike", str(VALUE), "order", ("apart", "", "0", "1", ""))), True)
        for orders, right in ((("01", "10"), True), (("10", "01"), False), (("01",), False), (["01", "10"], False), (None, False),
                              ((), False), (("01", "10", "10"), False)):
            self.assertIs(finding_holds(("symmetries", str(BOTH), orders)), right)

    def test_any_value(self):
        deep = ("worth",)
        for _ in range(18):
            deep = ("worth", deep, [deep] if len(repr(deep)) < 200 else 0, {"x": 1})
        great = tuple([("worth", "0")] * 1400)
        words = sorted({finding[0] for finding in ROWS + GROWTHS + OF_BOOKS})
        self.assertEqual(len(words), 25)
        for thing in ODDITIES + (deep, great, "~" * 2000, (ONES, "0"), {"worth": 1}, [("worth", str(ONES), "", 0)]):
            for check in (finding_holds, row_finding_holds, growth_finding_holds, book_finding_holds):
                self.assertIs(check(thing), False)
                for word in words:
                    for parts in range(5):
                        self.assertIs(check((word,) + (thing,) * parts), False, repr((word, parts))[:90])
        for thing in ODDITIES + (great,):
            for word in words:
                for text in (str(ONES), str(EMPTY), str(TWICE), (str(ONES),)):
                    for parts in range(4):
                        finding = (word, text) + (thing,) * parts
                        self.assertIs(finding_holds(finding), is_right(finding), repr(finding)[:200])

    def test_greater_texts(self):
        tally = multiplied(multiplied(ONES, VALUE), ZEROS)
        self.assertIs(finding_holds(("rank", str(tally), rank(tally))), True)
        self.assertIs(finding_holds(("worth", str(tally), "01" * 1000, tally.worth("01" * 1000))), True)
        self.assertIs(finding_holds(("worth", str(tally), "01" * 1000, tally.worth("01" * 1000) + 1)), False)
