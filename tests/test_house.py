import random
import unittest

from tallyhouse.errors import (BadDeed, BadName, BadPromise, NameTaken, Needed, NoName, NoPromise, NothingToUndo,
                               OtherDigits, TallyError, Unkept)
from tallyhouse.growthpapers import growth_holds
from tallyhouse.house import House
from tallyhouse.madeof import made_of_holds
from tallyhouse.making import added, times
from tallyhouse.promises import fault_of, is_promise
from tallyhouse.tallies import Tally
from tests.samples import (DIGITSUM, EMPTY, LENGTH, ODD, ODDITIES, ONE, ONES, PAIRS, TWOS, VALUE, ZEROS)

NO_NAMES = ODDITIES + ("", "A", "a1", "a b", "abcdefghi", "a\n", "-", " a", "a ", ("all",), ["all"], "one,two")


def outcome(call, *arguments):
    """What a call returns or raises, as something that can be compared."""
    try:
        return call(*arguments)
    except TallyError as error:
        return error.__class__.__name__, vars(error)


def full_state(house):
    """All that a house answers."""
    return (house.names(), [(name, house.editions(name), house.tariff_now(name), house.promises(name))
                            for name in house.names()], house.log(), len(house))


def kept_house():
    house = House()
    house.keep("all", ONE)
    house.keep("price", ONES)
    return house


class TariffsTest(unittest.TestCase):
    def test_examples(self):
        house = kept_house()
        self.assertIsNone(house.make_promise("price", ("degree", 1)))
        self.assertIsNone(house.make_promise("all", ("cap", 1)))
        self.assertIsNone(house.gate("price", LENGTH))
        house.make_promise("price", ("sums", 1))
        self.assertEqual(house.gate("price", LENGTH), ("price", ("sums", 1), ("apart", "")))
        with self.assertRaises(Unkept) as caught:
            house.make_promise("price", ("made of", ("all",)))
        error = caught.exception
        self.assertEqual((error.name, error.promise, error.fault[0]), ("price", ("made of", ("all",)), "barred"))
        self.assertIs(made_of_holds(ONES, (ONE,), error.fault), True)

    def test_a_house_without_tariffs(self):
        house = House()
        self.assertEqual((house.names(), house.log(), len(house)), ((), (), 0))
        self.assertTrue(house == House())
        self.assertEqual(House.of(()), house)
        with self.assertRaises(NothingToUndo):
            house.undo()

    def test_keep(self):
        house = House()
        for name in ("a", "zz", "abcdefgh", "price"):
            self.assertIsNone(house.keep(name=name, tally=ONES))
        self.assertEqual(house.names(), ("a", "abcdefgh", "price", "zz"))
        self.assertEqual((house.editions("zz"), house.tariff_now("zz"), house.promises("zz")), ((ONES,), ONES, ()))
        self.assertEqual(house.log()[0], ("keep", "a", str(ONES)))
        self.assertEqual(len(house), 4)

    def test_names_that_are_none(self):
        house = kept_house()
        before = full_state(house)
        for name in NO_NAMES:
            if name == "x":
                continue
            with self.assertRaises(BadName) as caught:
                house.keep(name, ONES)
            self.assertTrue(caught.exception.name is name)
        for name in ("all", "price"):
            with self.assertRaises(NameTaken) as caught:
                house.keep(name, DIGITSUM)
            self.assertEqual(caught.exception.name, name)
        self.assertEqual(full_state(house), before)

    def test_names_that_are_not_kept(self):
        house = kept_house()
        before = full_state(house)
        for name in NO_NAMES + ("price ", "prices", "al"):
            for call, more in ((house.add_edition, (DIGITSUM,)), (house.make_promise, (None,)), (house.release, (None,)),
                               (house.drop, ()), (house.gate, (DIGITSUM,)), (house.tariff_now, ()), (house.editions, ()),
                               (house.promises, ())):
                with self.assertRaises(NoName) as caught:
                    call(name, *more)
                self.assertTrue(caught.exception.name is name)
        self.assertEqual(full_state(house), before)

    def test_editions(self):
        house = kept_house()
        self.assertIsNone(house.add_edition(name="price", tally=LENGTH))
        self.assertIsNone(house.add_edition("price", LENGTH))
        self.assertEqual(house.editions(name="price"), (ONES, LENGTH, LENGTH))
        self.assertEqual(house.tariff_now(name="price"), LENGTH)
        self.assertEqual(house.log()[2:], (("edition", "price", str(LENGTH)),) * 2)
        for tally in (DIGITSUM, TWOS, Tally("02", ONES.start, ONES.tables, ONES.ends)):
            for call in (house.add_edition, house.gate):
                with self.assertRaises(OtherDigits):
                    call("price", tally)
        self.assertEqual(len(house), 4)

    def test_drop(self):
        house = kept_house()
        house.make_promise("price", ("rank", 2))
        house.add_edition("price", VALUE)
        self.assertIsNone(house.drop(name="price"))
        self.assertEqual(house.names(), ("all",))
        self.assertEqual(house.log()[-1], ("drop", "price"))
        # kept again it is a new tariff, over other digits too
        house.keep("price", DIGITSUM)
        self.assertEqual((house.editions("price"), house.promises("price")), ((DIGITSUM,), ()))

    def test_drop_what_is_needed(self):
        house = House()
        for name, tally in (("zeros", ZEROS), ("noughts", ZEROS), ("len", LENGTH), ("ones", ONES)):
            house.keep(name, tally)
        house.make_promise("zeros", ("made of", ("len", "ones")))
        house.make_promise("noughts", ("made of", ("len", "ones", "zeros")))
        before = full_state(house)
        for name, other in (("len", "noughts"), ("ones", "noughts"), ("zeros", "noughts")):
            with self.assertRaises(Needed) as caught:
                house.drop(name)
            self.assertEqual((caught.exception.name, caught.exception.other), (name, other))
        self.assertEqual(full_state(house), before)
        house.drop("noughts")
        house.drop("zeros")
        house.drop("len")
        self.assertEqual(house.names(), ("ones",))


class PromisesTest(unittest.TestCase):
    def test_promises_are_kept_in_order(self):
        house = kept_house()
        for promise in (("degree", 1), ("rank", 2), ("sums", 0), ("rank", 3)):
            self.assertIsNone(house.make_promise(name="price", promise=promise))
        self.assertEqual(house.promises(name="price"), (("degree", 1), ("rank", 2), ("sums", 0), ("rank", 3)))
        self.assertEqual(house.log()[-1], ("promise", "price", ("rank", 3)))
        self.assertIsNone(house.release(name="price", promise=("rank", 2)))
        self.assertEqual(house.promises("price"), (("degree", 1), ("sums", 0), ("rank", 3)))
        self.assertEqual(house.log()[-1], ("release", "price", ("rank", 2)))
        house.make_promise("price", ("rank", 2))
        self.assertEqual(house.promises("price")[-1], ("rank", 2))
        self.assertEqual(house.promises("all"), ())

    def test_promises_that_are_none(self):
        house = kept_house()
        house.keep("other", DIGITSUM)
        house.make_promise("price", ("rank", 2))
        house.make_promise("price", ("degree", 1))
        before = full_state(house)
        for promise in ODDITIES + (("rank", True), ("rank", -1), ("rank",), ["rank", 3], ("rank", 3, 3), ("made of", ()),
                                   ("made of", ("price",)), ("made of", ("all", "price")), ("made of", ("none",)),
                                   ("made of", ("all", "none")), ("made of", ("other",)), ("made of", ("all", "other")),
                                   ("made of", ["all"]), ("made of", "all"), ("rank", 2), ("degree", 1), ("Rank", 2),
                                   ("made of", ("Price",)), ("sums", None), ("cap", "1"), ("degree", (1,))):
            with self.assertRaises(BadPromise) as caught:
                house.make_promise("price", promise)
            self.assertTrue(caught.exception.promise is promise)
        self.assertEqual(full_state(house), before)

    def test_release_what_is_not_promised(self):
        house = kept_house()
        house.make_promise("price", ("rank", 2))
        house.make_promise("all", ("cap", 1))
        house.make_promise("all", ("degree", 0))
        before = full_state(house)
        for promise in ODDITIES + (("rank", 3), ("cap", 1), ["rank", 2], ("rank", 2, 2), ("rank", "2"), ("sums", 0),
                                   ("made of", ("all",))):
            with self.assertRaises(NoPromise) as caught:
                house.release("price", promise)
            self.assertTrue(caught.exception.promise is promise)
        for promise in (("cap", True), ("degree", False), ("cap", 0)):
            with self.assertRaises(NoPromise):
                house.release("all", promise)
        self.assertEqual(full_state(house), before)
        house.release("price", ("rank", 2))
        with self.assertRaises(NoPromise):
            house.release("price", ("rank", 2))

    def test_promises_that_are_not_kept(self):
        house = kept_house()
        before = full_state(house)
        for promise, kind in ((("rank", 1), "rank"), (("cap", 30), "above"), (("degree", 0), "power"),
                              (("made of", ("all",)), "barred")):
            with self.assertRaises(Unkept) as caught:
                house.make_promise("price", promise)
            error = caught.exception
            self.assertEqual((error.name, error.promise, error.fault[0]), ("price", promise, kind))
        self.assertEqual(full_state(house), before)
        # "sums" speaks of the edition as it is: it is always kept when it is made
        for more in (0, 6, 10 ** 39):
            house.make_promise("price", ("sums", more))
        house.keep("less", Tally("0", (1,), (((1,),),), (-1,)))
        for word in ("cap", "degree"):
            with self.assertRaises(Unkept) as caught:
                house.make_promise("less", (word, 5))
            self.assertEqual(caught.exception.fault, ("below", "ends"))

    def test_all_sorts_break(self):
        below = Tally("01", (1, 0), ONES.tables, (0, -1))
        for promise, tally, other in ((("rank", 2), VALUE, PAIRS), (("degree", 1), LENGTH, VALUE), (("degree", 1), LENGTH, below),
                                      (("sums", 0), added(ONES, EMPTY), times(2, ONES)), (("sums", 1), ONES, LENGTH),
                                      (("made of", ("all", "len")), LENGTH, ONES)):
            house = kept_house()
            house.keep("len", LENGTH)
            if promise[0] == "made of":
                house.add_edition("price", LENGTH)
            house.make_promise("price", promise)
            self.assertIsNone(house.gate("price", tally))
            house.add_edition("price", tally)
            before = full_state(house)
            broken = house.gate(name="price", tally=other)
            self.assertEqual(broken[:2], ("price", promise))
            with self.assertRaises(Unkept) as caught:
                house.add_edition("price", other)
            error = caught.exception
            self.assertEqual((error.name, error.promise, error.fault), broken)
            self.assertEqual(full_state(house), before)
        self.assertEqual(house.gate("all", VALUE), None)

    def test_cap_breaks(self):
        house = House()
        house.keep("odd", ODD)
        house.make_promise("odd", ("cap", 1))
        self.assertEqual(house.gate("odd", ONES), ("odd", ("cap", 1), ("above", "11")))
        self.assertEqual(house.gate("odd", times(2, ODD)), ("odd", ("cap", 1), ("above", "1")))
        self.assertEqual(house.gate("odd", times(-1, ODD)), ("odd", ("cap", 1), ("below", "ends")))
        self.assertIsNone(house.gate("odd", EMPTY))

    def test_the_first_promise_that_breaks(self):
        house = kept_house()
        for promise in (("sums", 0), ("rank", 2), ("degree", 1)):
            house.make_promise("price", promise)
        self.assertEqual(house.gate("price", VALUE)[1], ("sums", 0))
        house.release("price", ("sums", 0))
        self.assertEqual(house.gate("price", VALUE)[1], ("degree", 1))
        house.make_promise("price", ("sums", 0))
        fault = house.gate("price", VALUE)
        self.assertEqual(fault[1], ("degree", 1))
        self.assertIs(growth_holds(VALUE, fault[2]), True)
        self.assertEqual(house.gate("price", PAIRS)[1:], (("rank", 2), ("rank", 3)))

    def test_promises_of_others_that_hang_on_it(self):
        house = House()
        for name, tally in (("b", times(2, ONES)), ("a", times(4, ONES)), ("m", ONES), ("z", times(6, ONES)), ("c", ONE)):
            house.keep(name, tally)
        house.make_promise("z", ("made of", ("m",)))
        house.make_promise("b", ("made of", ("c", "m")))
        house.make_promise("a", ("made of", ("b",)))
        house.make_promise("a", ("made of", ("m",)))
        self.assertIsNone(house.gate("m", times(2, ONES)))
        self.assertIsNone(house.gate("m", times(-1, ONES)))
        self.assertEqual(house.gate("m", times(4, ONES))[:2], ("b", ("made of", ("c", "m"))))
        self.assertEqual(house.gate("m", times(3, ONES))[:2], ("a", ("made of", ("m",))))
        name, promise, fault = house.gate("m", LENGTH)
        self.assertEqual((name, promise), ("a", ("made of", ("m",))))
        self.assertIs(made_of_holds(times(4, ONES), (LENGTH,), fault), True)
        # its own promises are ahead of those of the others
        house.make_promise("m", ("degree", 1))
        self.assertEqual(house.gate("m", VALUE)[:2], ("m", ("degree", 1)))
        house.release("a", ("made of", ("m",)))
        self.assertEqual(house.gate("m", LENGTH)[:2], ("b", ("made of", ("c", "m"))))
        house.release("b", ("made of", ("c", "m")))
        self.assertEqual(house.gate("m", LENGTH)[:2], ("z", ("made of", ("m",))))
        house.release("z", ("made of", ("m",)))
        self.assertIsNone(house.gate("m", LENGTH))

    def test_made_of_each_other(self):
        house = House()
        house.keep("a", ONES)
        house.keep("b", times(-1, ONES))
        house.make_promise("a", ("made of", ("b",)))
        house.make_promise("b", ("made of", ("a",)))
        self.assertEqual(house.gate("a", times(2, ONES))[:2], ("b", ("made of", ("a",))))
        self.assertEqual(house.gate("a", LENGTH)[:2], ("a", ("made of", ("b",))))
        self.assertEqual(house.gate("b", EMPTY)[:2], ("a", ("made of", ("b",))))
        for name, other in (("a", "b"), ("b", "a")):
            with self.assertRaises(Needed) as caught:
                house.drop(name)
            self.assertEqual((caught.exception.name, caught.exception.other), (name, other))

    def test_sums_speak_of_the_edition_of_their_time(self):
        house = House()
        house.keep("a", ONES)
        house.make_promise("a", ("sums", 1))
        self.assertEqual(house.gate("a", ZEROS), ("a", ("sums", 1), ("apart", "0")))
        # as much over both digits that are put behind, but one more for a 0 there, and one less for a 1
        tail = Tally("01", (1, 0, 0), (((1, 0, 1), (0, 1, 0), (0, 0, 0)), ((1, 1, -1), (0, 1, 0), (0, 0, 0))), (0, 1, 1))
        self.assertIsNone(house.gate("a", tail))
        house.add_edition("a", tail)
        house.make_promise("a", ("sums", 0))
        self.assertEqual(house.gate("a", ONES), ("a", ("sums", 0), ("apart", "0")))
        house.release("a", ("sums", 0))
        self.assertIsNone(house.gate("a", ONES))
        house.add_edition("a", ONES)
        house.make_promise("a", ("sums", 0))
        self.assertEqual(house.gate("a", tail), ("a", ("sums", 0), ("apart", "0")))


class DeedsTest(unittest.TestCase):
    def test_log_and_undo(self):
        house = kept_house()
        states = [full_state(House()), full_state(House.of(house.log()[:1])), full_state(house)]
        for call, arguments in ((house.make_promise, ("price", ("degree", 1))), (house.make_promise, ("all", ("sums", 2))),
                                (house.add_edition, ("price", LENGTH)), (house.release, ("all", ("sums", 2))),
                                (house.drop, ("all",)), (house.keep, ("all", DIGITSUM))):
            call(*arguments)
            states.append(full_state(house))
        self.assertEqual(house.log()[2:], (("promise", "price", ("degree", 1)), ("promise", "all", ("sums", 2)),
                                           ("edition", "price", str(LENGTH)), ("release", "all", ("sums", 2)),
                                           ("drop", "all"), ("keep", "all", str(DIGITSUM))))
        while len(house):
            self.assertEqual(full_state(house), states[len(house)])
            self.assertEqual(full_state(House.of(house.log())), states[len(house)])
            self.assertTrue(House.of(house.log()) == house)
            self.assertIsNone(house.undo())
        self.assertEqual(full_state(house), states[0])
        for _ in range(2):
            with self.assertRaises(NothingToUndo):
                house.undo()
        house.keep("all", ONE)
        self.assertEqual(full_state(house), states[1])

    def test_an_error_is_no_deed(self):
        house = kept_house()
        house.make_promise("price", ("degree", 1))
        before = full_state(house)
        for call, arguments in ((house.add_edition, ("price", VALUE)), (house.keep, ("price", VALUE)), (house.drop, ("none",)),
                                (house.make_promise, ("price", ("degree", 0))), (house.release, ("price", ("rank", 2))),
                                (house.gate, ("price", VALUE)), (house.gate, ("price", LENGTH))):
            outcome(call, *arguments)
            self.assertEqual(full_state(house), before)

    def test_forty_deeds(self):
        house = kept_house()
        for number in range(38):
            house.make_promise("price", ("rank", number + 2))
        self.assertEqual(len(house), 40)
        self.assertEqual(len(house.promises("price")), 38)
        self.assertEqual(House.of(house.log()), house)
        for _ in range(40):
            house.undo()
        self.assertEqual(house, House())

    def test_trial(self):
        house = kept_house()
        house.make_promise("price", ("sums", 0))
        house.drop("all")
        house.undo()
        before = full_state(house)
        trial = house.trial()
        self.assertTrue(trial == house and trial is not house)
        self.assertEqual(full_state(trial), before)
        trial.drop("all")
        trial.release("price", ("sums", 0))
        trial.add_edition("price", VALUE)
        self.assertEqual(full_state(house), before)
        self.assertFalse(trial == house)
        other = house.trial()
        house.drop("price")
        self.assertEqual(full_state(other), before)
        for _ in range(3):
            other.undo()
        self.assertEqual(other, House())
        self.assertEqual(len(house), 4)

    def test_house_of_a_log(self):
        house = kept_house()
        house.make_promise("price", ("degree", 1))
        log = house.log()
        self.assertEqual(full_state(House.of(log=log)), full_state(house))
        for deed in ODDITIES + (("keep", "all", str(ONE)), ("keep", "All", str(ONE)), ("keep", "new", str(ONE) + "\n"),
                                ("keep", "new", ONE), ("keep", "new"), ("keep", "new", str(ONE), 0), ["drop", "all"],
                                ("drop",), ("drop", "none"), ("drop", "all", "price"), ("drop", None), ("undo",), ("Drop", "all"),
                                ("edition", "price", str(VALUE)), ("edition", "none", str(ONE)), ("edition", "price", ""),
                                ("edition", "price", str(DIGITSUM)), ("promise", "price", ("degree", 1)),
                                ("promise", "price", ("degree", 0)), ("promise", "price", None), ("promise", "price"),
                                ("promise", None, ("rank", 2)), ("release", "price", ("rank", 2)), ("release", "all", ("cap", 1)),
                                ("release", "price", ("degree", True)), ("release", "price"), (["drop"], "all"),
                                ("promise", "price", ("made of", ("none",))), ("names", "all"), ("keep", ["new"], str(ONE)),
                                ("Release", "price", ("degree", 1)), ("make", "price", ("rank", 2)), ("", "price", ("degree", 1)),
                                ("edition", "price", str(LENGTH), 0), ("promise", "price", ("rank", 2), 0),
                                ("release", "price", ("degree", 1), 0), ("edition", "price"), (None, "price", ("degree", 1))):
            self.assertEqual(outcome(House.of, log + (deed,)), ("BadDeed", {"number": 3}), repr(deed))
            self.assertEqual(outcome(House.of, log + (deed,) + log), ("BadDeed", {"number": 3}))
        self.assertEqual(outcome(House.of, (("keep", "a", ""),) + log), ("BadDeed", {"number": 0}))
        for thing in (None, list(log), {}, "log", 3, True, House(), set()) + ODDITIES:
            if thing != ():
                self.assertEqual(outcome(House.of, thing), ("BadDeed", {"number": 0}), repr(thing))
        self.assertEqual(outcome(House.of, log[1:] + log[:1] + log[1:]), ("BadDeed", {"number": 3}))

    def test_equal_houses(self):
        house, other = kept_house(), House()
        other.keep("price", VALUE)
        other.keep("new", ONES)
        other.drop("price")
        other.keep("price", ONES)
        other.drop("new")
        other.keep("all", ONE)
        self.assertTrue(house == other)
        self.assertNotEqual(house.log(), other.log())
        other.make_promise("all", ("rank", 1))
        self.assertFalse(house == other)
        house.make_promise("all", ("rank", 1))
        self.assertTrue(house == other)
        house.make_promise("all", ("cap", 1))
        other.release("all", ("rank", 1))
        other.make_promise("all", ("cap", 1))
        other.make_promise("all", ("rank", 1))
        # the same promises in another order
        self.assertFalse(house == other)
        house.release("all", ("rank", 1))
        house.make_promise("all", ("rank", 1))
        self.assertTrue(house == other)
        house.add_edition("price", ONES)
        self.assertFalse(house == other)
        for thing in ODDITIES + ({}, house.log()):
            self.assertIs(House() == thing, False)
            self.assertIs(house == thing, False)

    def test_equal_houses_have_the_editions_of_sums(self):
        one, other = House(), House()
        for house in (one, other):
            house.keep("a", ONES)
        one.make_promise("a", ("sums", 1))
        tail = Tally("01", (1, 0, 0), (((1, 0, 1), (0, 1, 0), (0, 0, 0)), ((1, 1, -1), (0, 1, 0), (0, 0, 0))), (0, 1, 1))
        one.add_edition("a", tail)
        other.add_edition("a", tail)
        other.make_promise("a", ("sums", 1))
        self.assertEqual(one.promises("a"), other.promises("a"))
        self.assertEqual(one.editions("a"), other.editions("a"))
        self.assertFalse(one == other)
        one.release("a", ("sums", 1))
        one.make_promise("a", ("sums", 1))
        self.assertTrue(one == other)

    def test_any_deeds_against_a_model(self):
        tallies = [ONES, ZEROS, LENGTH, ONE, times(2, ONES), EMPTY, VALUE, DIGITSUM, ODD, times(-1, ONE)]
        promises = [("rank", 1), ("rank", 2), ("cap", 1), ("degree", 0), ("degree", 1), ("sums", 0), ("sums", 2),
                    ("made of", ("a",)), ("made of", ("b", "c")), ("made of", ("a", "b")), ("made of", ("d",)), None]
        for seed in range(12):
            chance = random.Random(seed)
            house, model = House(), Model()
            for _ in range(40):
                kind = chance.choice(("keep", "keep", "edition", "edition", "promise", "promise", "promise", "release", "drop",
                                      "undo", "gate"))
                name = chance.choice("abcd")
                if kind in ("keep", "edition", "gate"):
                    tally = chance.choice(tallies)
                    found = [outcome({"keep": thing.keep, "edition": thing.add_edition, "gate": thing.gate}[kind], name, tally)
                             for thing in (house, model)]
                elif kind in ("promise", "release"):
                    promise = chance.choice(promises)
                    if kind == "release" and name in model.kept and model.kept[name][1] and chance.random() < 0.8:
                        promise = chance.choice(model.kept[name][1])[0]
                    found = [outcome({"promise": thing.make_promise, "release": thing.release}[kind], name, promise)
                             for thing in (house, model)]
                elif kind == "drop":
                    found = [outcome(thing.drop, name) for thing in (house, model)]
                else:
                    found = [outcome(thing.undo) for thing in (house, model)]
                self.assertEqual(found[0], found[1])
                self.assertEqual(house.log(), tuple(model.deeds))
                self.assertEqual(house.names(), tuple(sorted(model.kept)))
                for name in house.names():
                    editions, promised = model.kept[name]
                    self.assertEqual(house.editions(name), tuple(editions))
                    self.assertEqual(house.promises(name), tuple(promise for promise, before in promised))
            self.assertEqual(full_state(House.of(house.log())), full_state(house))
            self.assertTrue(House.of(house.log()) == house)


class Model:
    """A house by the words of the document, which does all deeds that count once more when one is taken back."""

    def __init__(self):
        self.kept, self.deeds = {}, []

    def check(self, name):
        if name not in self.kept:
            raise NoName(name)

    def keep(self, name, tally):
        if name in self.kept:
            raise NameTaken(name)
        self.kept[name] = ([tally], [])
        self.deeds.append(("keep", name, str(tally)))

    def gate(self, name, tally):
        self.check(name)
        if tally.digits != self.kept[name][0][0].digits:
            raise OtherDigits()
        now = {other: self.kept[other][0][-1] for other in self.kept}
        now[name] = tally
        asked = [(name, promise, before) for promise, before in self.kept[name][1]]
        asked += [(other, promise, before) for other in sorted(self.kept) if other != name
                  for promise, before in self.kept[other][1] if promise[0] == "made of" and name in promise[1]]
        for other, promise, before in asked:
            others = tuple(now[word] for word in promise[1]) if promise[0] == "made of" else ()
            fault = fault_of(now[other], promise, before, others)
            if fault:
                return other, promise, fault
        return None

    def add_edition(self, name, tally):
        broken = self.gate(name, tally)
        if broken:
            raise Unkept(*broken)
        self.kept[name][0].append(tally)
        self.deeds.append(("edition", name, str(tally)))

    def make_promise(self, name, promise):
        self.check(name)
        editions, promised = self.kept[name]
        if not is_promise(promise) or promise in [other for other, before in promised]:
            raise BadPromise(promise)
        others = ()
        if promise[0] == "made of":
            for other in promise[1]:
                if other == name or other not in self.kept or self.kept[other][0][0].digits != editions[0].digits:
                    raise BadPromise(promise)
            others = tuple(self.kept[other][0][-1] for other in promise[1])
        fault = fault_of(editions[-1], promise, editions[-1], others)
        if fault:
            raise Unkept(name, promise, fault)
        promised.append((promise, editions[-1]))
        self.deeds.append(("promise", name, promise))

    def release(self, name, promise):
        self.check(name)
        for place, (other, before) in enumerate(self.kept[name][1]):
            if other == promise:
                del self.kept[name][1][place]
                self.deeds.append(("release", name, promise))
                return
        raise NoPromise(promise)

    def drop(self, name):
        self.check(name)
        for other in sorted(self.kept):
            if any(promise[0] == "made of" and name in promise[1] for promise, before in self.kept[other][1]):
                raise Needed(name, other)
        del self.kept[name]
        self.deeds.append(("drop", name))

    def undo(self):
        if not self.deeds:
            raise NothingToUndo()
        deeds = self.deeds[:-1]
        self.__init__()
        for word, *parts in deeds:
            if word in ("keep", "edition"):
                {"keep": self.keep, "edition": self.add_edition}[word](parts[0], Tally.read(parts[1]))
            else:
                {"promise": self.make_promise, "release": self.release, "drop": self.drop}[word](*parts)
