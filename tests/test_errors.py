import inspect
import unittest

from tallyhouse import errors

ERRORS = {
    "BadTally": ("part",), "BadText": ("line",), "BadTicket": ("ticket",), "OtherDigits": (), "OtherTally": (),
    "BadRewriter": ("part",), "OtherRoll": (), "DoesDouble": ("paper",), "Unbounded": ("paper",),
    "BadTold": ("number",), "CannotBe": ("paper",), "BadDigit": ("digit",), "BadName": ("name",),
    "NameTaken": ("name",), "NoName": ("name",), "BadPromise": ("promise",),
    "Unkept": ("name", "promise", "fault"), "NoPromise": ("promise",), "Needed": ("name", "other"),
    "NothingToUndo": (), "NothingToRedo": (), "BadDeed": ("number",), "NoStretch": ("low", "high"),
    "SoldBefore": ("ticket",), "NotSold": ("ticket",), "InvalidCommand": (),
}


class ErrorsTest(unittest.TestCase):
    def test_each_error_is_a_direct_subclass_of_the_base(self):
        self.assertEqual(errors.TallyError.__bases__, (Exception,))
        for name in ERRORS:
            self.assertEqual(getattr(errors, name).__bases__, (errors.TallyError,), name)

    def test_there_are_no_other_errors(self):
        found = {name for name, thing in vars(errors).items() if inspect.isclass(thing)}
        self.assertEqual(found, set(ERRORS) | {"TallyError"})

    def test_parameters_are_attributes_by_position_and_by_name(self):
        for name, words in ERRORS.items():
            for values in ([None] * 3, [["any"], {"value": ()}, True], ["text", -1, (1, "a")]):
                values = values[:len(words)]
                by_position = getattr(errors, name)(*values)
                by_name = getattr(errors, name)(**dict(zip(words, values)))
                for error in (by_position, by_name):
                    self.assertEqual([getattr(error, word) for word in words], values, name)
                    self.assertIsInstance(str(error), str)

    def test_the_number_of_parameters_is_as_told(self):
        for name, words in ERRORS.items():
            with self.assertRaises(TypeError):
                getattr(errors, name)(*([1] * (len(words) + 1))) if words else getattr(errors, name)(what=1)

    def test_they_can_be_raised_and_caught_by_the_base(self):
        for name, words in ERRORS.items():
            with self.assertRaises(errors.TallyError):
                raise getattr(errors, name)(*["x"] * len(words))
