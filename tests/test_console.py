import random
import unittest

from tallyhouse.asked import to_ask
from tallyhouse.bounds import is_bounded
from tallyhouse.caps import least_cap
from tallyhouse.console import Console
from tallyhouse.errors import InvalidCommand, NameTaken, NoName, NothingToUndo, TallyError
from tallyhouse.house import House
from tallyhouse.leasts import least, rank
from tallyhouse.making import added, lone, multiplied, nought, times
from tallyhouse.powers import degree
from tallyhouse.prices import Book, can_be, suspects
from tallyhouse.prizes import greatest, greatest_ticket, lowest, lowest_ticket
from tallyhouse.ranges import range_sum, roll_sum
from tallyhouse.tallies import Tally
from tallyhouse.told import first_open, rest_and_step
from tests.samples import (BOTH, DIGITSUM, EMPTY, LENGTH, ODD, ODDITIES, ONE, ONES, PAIRS, TWOS, VALUE, ZEROS, made_up_tally)

EXAMPLE = """keep ones tally 01;start 1 0;table 0;1 0;0 1;table 1;1 1;0 1;ends 0 1 -> ok
worth ones 011 -> 2
sum ones 00 11 -> 4
rank ones -> 2
growth ones -> power 1
cap ones -> none
greatest ones 3 -> 3 111
takings ones 00 3 -> at 11 2
tell ones 00 01 5 -> ok
worths ones 11 -> 1 3
open ones -> -
ask ones -> -
can ones -> yes
promise ones cap 3 -> unkept
promise ones degree 1 -> ok
undo -> ok
promises ones -> none"""
TALLIES = {"ones": ONES, "value": VALUE, "sums": DIGITSUM, "odd": ODD, "none": EMPTY, "below": times(-1, ONES), "twos": TWOS,
           "len": LENGTH, "pairs": PAIRS, "both": BOTH, "less": added(ODD, times(-2, ODD)), "any": made_up_tally(3, "012", 3),
           "zero": nought("3"), "late": lone("01", "0110")}
QUERIES = ["names", "tariff N", "promises N", "worth N 01", "worth N -", "sum N 00 11", "sum N - -", "roll N 3", "takings N 00 3",
           "takings N - 1", "same N M", "same N N", "rank N", "least N", "made N M", "made N L,M", "growth N", "cap N", "bounded N",
           "greatest N 3", "lowest N 3", "can N", "suspects N", "worths N 1", "worths N -", "worths N 0110", "open N", "ask N"]


def words_of(tally):
    return str(tally).replace("\n", ";")


def outcome(console, command):
    """The answer, or the error with what it bears."""
    try:
        return console.run(command)
    except TallyError as error:
        return error.__class__.__name__, vars(error)


def console_with(*names):
    console = Console()
    for name in names:
        assert console.run(f"keep {name} {words_of(TALLIES[name])}") == "ok"
    return console


def answers(console, names=("ones", "len", "both")):
    """What a console answers to all that changes nothing."""
    found = []
    for query in QUERIES:
        for one in names:
            for other in names:
                low, high = sorted((one, other))
                command = query.replace("L", low).replace("M", high).replace("N", one)
                found.append((command, outcome(console, command)))
    return found, console.house_now().log()


class AnswersTest(unittest.TestCase):
    def test_examples(self):
        console = Console()
        for line in EXAMPLE.split("\n"):
            command, answer = line.split(" -> ")
            self.assertEqual(console.run(command), answer, command)

    def test_names_and_tariffs(self):
        console = Console()
        self.assertEqual(console.run("names"), "none")
        for name, tally in TALLIES.items():
            self.assertEqual(console.run(f"keep {name} {words_of(tally)}"), "ok")
            self.assertEqual(console.run("tariff " + name), words_of(tally))
        self.assertEqual(console.run("names"), " ".join(sorted(TALLIES)))
        self.assertEqual(console.run(command="tariff none"), "tally 01;start;table 0;table 1;ends")
        self.assertEqual(console.run("keep abcdefgh tally 0;start -2;table 0;3;ends 40"), "ok")
        self.assertEqual(console.run("worth abcdefgh 00"), "-720")

    def test_worths_and_sums(self):
        console = console_with(*TALLIES)
        for name, tally in TALLIES.items():
            for ticket in ("", tally.digits[-1], tally.digits * 2, tally.digits[0] * 40):
                self.assertEqual(console.run(f"worth {name} {ticket or '-'}"), str(tally.worth(ticket)))
            for low, high in (("", ""), (tally.digits[0] * 3, tally.digits[-1] * 3), (tally.digits, tally.digits)):
                self.assertEqual(console.run(f"sum {name} {low or '-'} {high or '-'}"), str(range_sum(tally, low, high)))
            for length in (0, 1, 5, 40):
                self.assertEqual(console.run(f"roll {name} {length}"), str(roll_sum(tally, length)))
        # more figures than Python writes at once
        self.assertEqual(len(console.run("worth twos " + "0" * 20000)), 6021)

    def test_takings(self):
        console = console_with(*TALLIES)
        self.assertEqual(console.run("takings sums 01 4"), "at 10 3")
        self.assertEqual(console.run("takings sums 21 9"), "never 7")
        self.assertEqual(console.run("takings len - 1"), "never 0")
        self.assertEqual(console.run("takings twos - 1"), "at - 0")
        self.assertEqual(console.run("takings ones 00 9999999999999999999999999999999999999999"), "never 4")
        self.assertEqual(console.run("takings none 0000 1"), "never 0")
        self.assertEqual(console.run("takings below 00 1"), "uncounted")
        self.assertEqual(console.run("takings less 00 1"), "uncounted")

    def test_same_rank_least_made(self):
        console = console_with(*TALLIES)
        self.assertEqual(console.run("same ones value"), "apart 10")
        self.assertEqual(console.run("same ones ones"), "same")
        self.assertEqual(console.run("same both none"), "apart -")
        self.assertEqual(console.run("same sums ones"), "unlike")
        self.assertEqual(console.run("same zero zero"), "same")
        for name, tally in TALLIES.items():
            self.assertEqual(console.run("rank " + name), str(rank(tally)))
            self.assertEqual(console.run("least " + name), words_of(least(tally)))
        console.run("keep zeros " + words_of(ZEROS))
        console.run("keep two " + words_of(times(2, ONES)))
        for command, answer in (("made len ones,zeros", "yes"), ("made ones len,two", "no"), ("made two ones", "yes"),
                                ("made ones two", "no"), ("made ones ones", "yes"), ("made none value", "yes"),
                                ("made ones sums", "unlike"), ("made ones ones,sums", "unlike"), ("made sums ones", "unlike"),
                                ("made two len,ones,zeros", "yes"), ("made below ones", "yes")):
            self.assertEqual(console.run(command), answer, command)

    def test_growth_caps_bounds_prizes(self):
        console = console_with(*TALLIES)
        for name, tally in TALLIES.items():
            commands = [f"growth {name}", f"cap {name}"] + [f"{word} {name} {length}" for word in ("greatest", "lowest")
                                                          for length in (0, 1, 4, 30)]
            if tally.is_count:
                grows, cap = degree(tally), least_cap(tally)
                expected = ["doubles" if grows is None else f"power {grows}", "none" if cap is None else str(cap)]
                for best, ticket in ((greatest, greatest_ticket), (lowest, lowest_ticket)):
                    expected += [f"{best(tally, length)} {ticket(tally, length) or '-'}" for length in (0, 1, 4, 30)]
            else:
                expected = ["uncounted"] * 10
            self.assertEqual([console.run(command) for command in commands], expected)
            self.assertEqual(console.run(f"bounded {name}"), "yes" if is_bounded(tally) else "no")
        self.assertEqual([console.run("growth " + name) for name in ("ones", "value", "odd", "below")],
                         ["power 1", "doubles", "power 0", "uncounted"])
        self.assertEqual([console.run("cap " + name) for name in ("ones", "odd", "none", "less")], ["none", "1", "0", "uncounted"])
        self.assertEqual([console.run("bounded " + name) for name in ("ones", "odd", "less", "below")], ["no", "yes", "yes", "no"])
        self.assertEqual(console.run("lowest both 4"), "8 0011")
        self.assertEqual(console.run("greatest both 0"), "2 -")

    def test_told_sums(self):
        console = console_with("ones", "sums", "none")
        for name, told in (("ones", (("00", "01", 5),)), ("ones", (("0", "0", 1), ("00", "01", 4), ("1", "1", 2))), ("sums", ()),
                           ("sums", (("", "", 2), ("02", "20", -10 ** 40 + 1), ("1", "1", 10 ** 40 - 1))), ("ones", (("", "", 0),) * 2),
                           ("none", ()), ("none", (("", "", 0),)), ("none", (("0", "1", 4),)), ("ones", (("00", "11", 8),))):
            for low, high, amount in told:
                self.assertEqual(console.run(f"tell {name} {low or '-'} {high or '-'} {amount}"), "ok")
            book = Book(TALLIES[name], told)
            self.assertEqual(console.run("can " + name), "yes" if can_be(book) else "no")
            self.assertEqual(console.run("suspects " + name), " ".join(map(str, suspects(book))) or "none")
            self.assertEqual(console.run("open " + name), "none" if first_open(book) is None else first_open(book) or "-")
            self.assertEqual(console.run("ask " + name), " ".join(ticket or "-" for ticket in to_ask(book)) or "none")
            for ticket in ("", "1", "01"):
                expected = "%d %d" % rest_and_step(book, ticket) if can_be(book) else "cannot"
                self.assertEqual(console.run(f"worths {name} {ticket or '-'}"), expected)
            for _ in told:
                self.assertEqual(console.run("undo"), "ok")
        self.assertEqual(console.run("ask sums"), "- 1")
        self.assertEqual((console.run("suspects ones"), console.run("can ones"), console.run("open none")), ("none", "yes", "none"))


class ChangesTest(unittest.TestCase):
    def test_editions_and_promises(self):
        console = console_with("ones", "odd", "sums")
        self.assertEqual(console.run("promise odd cap 1"), "ok")
        self.assertEqual(console.run("promise odd degree 0"), "ok")
        self.assertEqual(console.run("promise odd sums 2"), "ok")
        self.assertEqual(console.run("promise odd rank 9999999999999999999999999999999999999999"), "ok")
        self.assertEqual(console.run("promise odd made ones"), "unkept")
        self.assertEqual(console.run("promise ones rank 1"), "unkept")
        self.assertEqual(console.run("promises odd"), "cap 1;degree 0;sums 2;rank 9999999999999999999999999999999999999999")
        self.assertEqual(console.run(f"edition odd {words_of(ONES)}"), "unkept")
        self.assertEqual(console.run(f"edition odd {words_of(least(ODD))}"), "ok")
        self.assertEqual(console.run("tariff odd"), words_of(least(ODD)))
        self.assertEqual(console.run("release odd cap 1"), "ok")
        self.assertEqual(console.run("promises odd"), "degree 0;sums 2;rank 9999999999999999999999999999999999999999")
        console.run("keep odds " + words_of(multiplied(ODD, ODD)))
        console.run("keep a " + words_of(ONE))
        self.assertEqual(console.run("promise odds made a,odd"), "ok")
        self.assertEqual(console.run("promises odds"), "made a,odd")
        self.assertEqual(console.run("drop odd"), "needed")
        self.assertEqual(console.run("drop a"), "needed")
        self.assertEqual(console.run("release odds made a,odd"), "ok")
        self.assertEqual(console.run("drop odd"), "ok")
        self.assertEqual(console.run("names"), "a odds ones sums")

    def test_an_edition_that_breaks_the_promise_of_another(self):
        console = console_with("ones")
        console.run("keep two " + words_of(times(2, ONES)))
        self.assertEqual(console.run("promise two made ones"), "ok")
        self.assertEqual(console.run("edition ones " + words_of(times(4, ONES))), "unkept")
        self.assertEqual(console.run("tariff ones"), words_of(ONES))
        self.assertEqual(console.run("edition ones " + words_of(times(-2, ONES))), "ok")

    def test_told_sums_are_forgotten_and_come_back(self):
        console = console_with("ones", "sums")
        self.assertEqual(console.run("tell ones - - 1"), "ok")
        self.assertEqual(console.run("tell ones 1 1 3"), "ok")
        self.assertEqual(console.run("tell sums 0 2 9"), "ok")
        told = [console.run(command) for command in ("worths ones 11", "open ones", "worths sums 2", "ask sums", "ask ones")]
        self.assertEqual(told, ["5 0", "none", "0 1", "-", "none"])
        for command in ("edition ones " + words_of(LENGTH), "edition ones " + words_of(ONES), "drop ones"):
            self.assertEqual(console.run(command), "ok")
            if command != "drop ones":
                self.assertEqual((console.run("worths ones 11"), console.run("open ones")), ("0 1", "-"))
            else:
                console.run("keep ones " + words_of(ONES))
                self.assertEqual((console.run("worths ones 11"), console.run("open ones")), ("0 1", "-"))
                console.run("undo")
            self.assertEqual(console.run("ask sums"), "-")
            console.run("undo")
            self.assertEqual([console.run(query) for query in ("worths ones 11", "open ones", "worths sums 2", "ask sums",
                                                               "ask ones")], told)
        # promises leave what was told
        console.run("promise ones degree 1")
        self.assertEqual(console.run("worths ones 11"), "5 0")
        self.assertEqual(console.run("edition ones " + words_of(VALUE)), "unkept")
        self.assertEqual(console.run("worths ones 11"), "5 0")
        console.run("release ones degree 1")
        self.assertEqual(console.run("worths ones 11"), "5 0")
        for _ in range(2):
            console.run("undo")
        console.run("undo")
        self.assertEqual(console.run("ask sums"), "- 1")
        console.run("undo")
        self.assertEqual(console.run("worths ones 11"), "1 2")
        self.assertEqual(console.run("open ones"), "1")

    def test_undo(self):
        console = Console()
        with self.assertRaises(NothingToUndo):
            console.run("undo")
        states = [answers(console)]
        commands = ["keep ones " + words_of(ONES), "tell ones 00 01 5", "keep len " + words_of(LENGTH), "promise ones degree 1",
                    "tell len - - 3", "tell ones 00 01 6", "keep both " + words_of(BOTH), "edition ones " + words_of(LENGTH),
                    "tell ones 1 1 1", "promise len made ones", "release ones degree 1", "drop both", "keep both " + words_of(ODD),
                    "release len made ones", "drop ones"]
        for command in commands:
            self.assertEqual(console.run(command), "ok", command)
            states.append(answers(console))
        for number in reversed(range(len(commands))):
            self.assertEqual(console.run("undo"), "ok")
            self.assertEqual(answers(console), states[number], commands[number])
        self.assertEqual(outcome(console, "undo"), ("NothingToUndo", {}))
        # what was taken back is gone for good
        self.assertEqual(console.run(commands[0]), "ok")
        self.assertEqual(answers(console), states[1])

    def test_what_changes_nothing_cannot_be_taken_back(self):
        console = console_with("ones")
        console.run("promise ones degree 1")
        before = answers(console)
        for command in ("promise ones cap 3", "edition ones " + words_of(VALUE), "worth ones 0", "tell ones 1 0 5", "drop none",
                        "promise ones degree 1", "release ones rank 2", "keep ones " + words_of(ONE), "nothing", "worths ones -"):
            outcome(console, command)
        self.assertEqual(answers(console), before)
        self.assertEqual(console.run("undo"), "ok")
        self.assertEqual(console.run("promises ones"), "none")

    def test_the_house_now(self):
        console = console_with("ones", "odd")
        console.run("tell ones - - 1")
        console.run("promise ones rank 2")
        house = console.house_now()
        self.assertIsInstance(house, House)
        self.assertEqual(house.log(), (("keep", "ones", str(ONES)), ("keep", "odd", str(ODD)), ("promise", "ones", ("rank", 2))))
        self.assertEqual(house, House.of(house.log()))
        before = answers(console)
        house.drop("ones")
        house.undo()
        house.undo()
        house.keep("new", ONE)
        self.assertEqual(answers(console), before)
        self.assertEqual(console.house_now().names(), ("odd", "ones"))
        console.run("undo")
        self.assertEqual(house.names(), ("new", "odd", "ones"))

    def test_only_the_changes_that_still_count(self):
        names = ("ones", "len", "both")
        texts = [words_of(tally) for tally in (ONES, LENGTH, BOTH, ODD, ONE, EMPTY, times(2, ONES), DIGITSUM)]
        promises = ["rank 2", "rank 1", "cap 1", "degree 1", "sums 0", "sums 1", "made len", "made both,ones", "made ones"]
        for seed in range(6):
            chance = random.Random(seed)
            console, counting = Console(), []
            for _ in range(60):
                name = chance.choice(names)
                low, high = sorted(chance.choice(("00", "01", "10", "11")) for _ in range(2))
                command = chance.choice((f"keep {name} {chance.choice(texts)}", f"edition {name} {chance.choice(texts)}",
                                         f"drop {name}", f"promise {name} {chance.choice(promises)}",
                                         f"release {name} {chance.choice(promises)}",
                                         f"tell {name} {low} {high} {chance.randint(-5, 5)}", "undo", "undo"))
                answer = outcome(console, command)
                if answer == "ok":
                    counting = counting[:-1] if command == "undo" else counting + [command]
            other = Console()
            for command in counting:
                self.assertEqual(other.run(command), "ok")
            self.assertEqual(answers(other), answers(console))
            self.assertTrue(other.house_now() == console.house_now())


class ErrorsTest(unittest.TestCase):
    def invalid(self, console, command):
        self.assertEqual(outcome(console, command), ("InvalidCommand", {}), repr(command)[:90])

    def test_values_that_are_no_commands(self):
        for console in (Console(), console_with("ones", "odd")):
            before = answers(console)
            for thing in ODDITIES + ("", " ", "Names", "names ", " names", "names  ", "names\n", "\nnames", "names x", "undo x", "undo ",
                                     "UNDO", "redo", "help", "names;", ("names",), ["names"], b"names", {"names": 1}, "~" * 2000,
                                     "worth ones  0", "worth  ones 0", "worth ones 0 ", " worth ones 0", "worth ones\n0", "worth ones",
                                     "worth ones 0 0", "worth", "sum ones 0", "sum ones 0 0 0", "roll ones", "roll ones 1 1",
                                     "keep", "keep new", "keep new ", "edition ones", "edition ones ", "drop", "drop ones ones", "tell ones 0 0",
                                     "tell ones 0 0 1 1", "tell ones 0 1", "same ones", "same ones odd odd", "made ones", "made ones odd ones",
                                     "promise ones", "promise ones rank", "promise ones rank 1 1", "release ones", "release ones cap",
                                     "promise ones made", "promise ones made odd ones", "promise ones sum 1", "promise ones Rank 1",
                                     "promise ones cap -1", "promise ones made-of odd", "promise ones made of odd", "promise ones rank ones",
                                     "takings ones 0", "takings ones 0 0 0", "greatest ones", "lowest ones 1 1", "rank ones 1", "rank",
                                     "growth", "cap ones 1", "can", "suspects", "worths ones", "open", "ask", "ask ones odd", "promises"):
                self.invalid(console, thing)
            self.assertEqual(answers(console), before)

    def test_names_that_are_none(self):
        console = console_with("ones")
        text = words_of(ONES)
        for name in ("Ones", "ones1", "abcdefghi", "one,two", "-", "1", "o;", "_", "ones\n", "", "o.e"):
            for command in (f"keep {name} {text}", f"edition {name} {text}", f"drop {name}", f"promise {name} rank 1",
                            f"release {name} rank 1", f"tell {name} 0 0 1", f"tariff {name}", f"promises {name}", f"worth {name} 0",
                            f"sum {name} 0 0", f"roll {name} 1", f"takings {name} 0 1", f"same {name} ones", f"same ones {name}",
                            f"rank {name}", f"least {name}", f"made {name} ones", f"growth {name}", f"cap {name}", f"greatest {name} 1",
                            f"lowest {name} 1", f"bounded {name}", f"can {name}", f"suspects {name}", f"worths {name} 0", f"open {name}",
                            f"ask {name}"):
                self.invalid(console, command)
        for names in ("ones,", ",ones", "ones,,two", "two,ones", "ones,ones", "ones, two", "ones;two", "Ones", "abcdefghi", ",", "-"):
            self.invalid(console, f"made ones {names}")
            self.invalid(console, f"promise ones made {names}")
            self.invalid(console, f"release ones made {names}")

    def test_integers(self):
        console = console_with("ones")
        forty = "9" * 40
        for word, low, high in (("tell ones 0 0 {}", -10 ** 40 + 1, 10 ** 40 - 1), ("takings ones 0 {}", 1, 10 ** 40 - 1),
                                ("roll ones {}", 0, 40), ("greatest ones {}", 0, 30), ("lowest ones {}", 0, 30),
                                ("promise ones rank {}", 2, 10 ** 40 - 1), ("promise ones degree {}", 1, 10 ** 40 - 1),
                                ("promise ones sums {}", 0, 6)):
            for number in (low, low + 1, high - 1, high):
                self.assertIsInstance(console.run(word.format(number)), str)
            for number in ("+1", "01", "00", "-0", "1.0", "1e3", "0x1", "1_0", "--1", "-", "", "one", "1;", "-01", "1" + forty, "-1" + forty,
                           "1" * 2000, "\u0661"):
                self.invalid(console, word.format(number))
        for command in ("roll ones 41", "roll ones -1", "greatest ones 31", "greatest ones -1", "lowest ones 31", "takings ones 0 0",
                        "takings ones 0 -1", "roll ones " + forty, "greatest ones " + forty, "promise ones rank -1",
                        "promise ones sums -1", "release ones degree -1", "promise ones degree 0" + forty):
            self.invalid(console, command)
        self.assertEqual(console.run(f"tell ones 0 0 -{forty}"), "ok")
        self.assertEqual(console.run("release ones rank " + forty), "ok")

    def test_order_of_errors(self):
        console = console_with("ones", "sums")
        text = words_of(ONES)
        # the form is ahead of the names, also of a name that is taken
        for command in ("keep ones  " + text, "keep ones", "worth no  0", "roll no 41", "takings no 0 0", "promise no rank -1",
                        "made no Ones", "same no Ones", "tell no 0 0 x", "edition no", "greatest no 31", "promise no made b,a"):
            self.invalid(console, command)
        # a name that is taken is ahead of the text
        self.assertEqual(outcome(console, "keep ones x"), ("NameTaken", {"name": "ones"}))
        self.assertEqual(outcome(console, "keep ones " + text), ("NameTaken", {"name": "ones"}))
        self.invalid(console, "keep new x")
        # names are ahead of texts, tickets and promises
        for command in ("edition no x", "worth no 7", "worths no 7", "sum no 1 0", "tell no 1 00 1", "takings no 7 1",
                        "promise no made no", "release no cap 1", "drop no", "tariff no", "promises no", "roll no 1", "same no nor",
                        "same ones no", "same no ones", "made no nor", "made ones no,ones", "made ones no,nor", "made no ones", "rank no",
                        "least no", "growth no", "cap no", "greatest no 1", "lowest no 1", "bounded no", "can no", "suspects no", "open no",
                        "ask no"):
            self.assertEqual(outcome(console, command), ("NoName", {"name": "no"}), command)
        self.assertEqual(outcome(console, "made ones nor,ones"), ("NoName", {"name": "nor"}))
        # names within promises are left to the house
        for command in ("promise ones made no", "promise ones made no,nor", "release ones made no", "promise ones made ones",
                        "promise ones made sums", "release ones made sums", "promise sums made ones,sums"):
            self.invalid(console, command)
        with self.assertRaises(NameTaken):
            console.run("keep sums " + text)
        with self.assertRaises(NoName):
            console.run("drop none")
        with self.assertRaises(InvalidCommand):
            console.run("drop")

    def test_texts_that_are_none(self):
        console = console_with("ones")
        text = words_of(ONES)
        for other in ("x", text + ";", ";" + text, text[:-2], text.replace(";", ",", 1), text.replace("tally", "Tally"), "-", ";",
                      text + " 0", text.replace("01", "10", 1), str(ONES).replace("\n", " "), text + "~"):
            self.invalid(console, "keep new " + other)
            self.invalid(console, "edition ones " + other)
        # line feeds stand in no command, wherever they would be right
        for other in (str(ONES), text.replace(";", "\n", 1), str(nought("01")), text + "\n"):
            self.invalid(console, "keep new " + other)
            self.invalid(console, "edition ones " + other)
        for tally in (DIGITSUM, TWOS, Tally("02", ONES.start, ONES.tables, ONES.ends)):
            self.invalid(console, "edition ones " + words_of(tally))
        self.assertEqual(console.run("names"), "ones")
        self.assertEqual(console.run("edition ones " + words_of(EMPTY)), "ok")

    def test_tickets_that_are_none(self):
        console = console_with("ones", "below")
        console.run("tell ones - - 1")
        console.run("tell ones - - 2")
        for ticket in ("2", "0a", "--", "-0", "0-", "x", "~", ";", "0;1", "012", "ones", "1."):
            for command in (f"worth ones {ticket}", f"worths ones {ticket}", f"takings below {ticket} 1", f"sum ones {ticket} {ticket}",
                            f"sum ones 0 {ticket}", f"tell ones {ticket} 1 1", f"tell ones 0 {ticket} 1"):
                self.invalid(console, command)
        for low, high in (("0", "00"), ("00", "0"), ("1", "0"), ("-", "0"), ("0", "-"), ("10", "01")):
            self.invalid(console, f"sum ones {low} {high}")
            self.invalid(console, f"tell ones {low} {high} 1")
        # all of this is ahead of answers like these
        self.assertEqual(console.run("takings below 0 1"), "uncounted")
        self.assertEqual(console.run("worths ones 0"), "cannot")

    def test_promises_that_the_house_refuses(self):
        console = console_with("ones", "odd")
        self.assertEqual(console.run("promise ones degree 1"), "ok")
        for command in ("promise ones degree 1", "promise ones made ones", "promise ones made none", "promise ones made none,odd",
                        "release ones degree 2", "release odd degree 1", "release ones made odd", "release ones cap 1"):
            self.invalid(console, command)
        self.assertEqual(console.run("promise ones made odd"), "unkept")
        self.assertEqual(console.run("promises ones"), "degree 1")
