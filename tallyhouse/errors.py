"""The errors that the package raises. What an error is created with is also its attributes."""


class TallyError(Exception):
    """The base class of all errors of the package."""


class BadTally(TallyError):
    """A part of a tally is not as told."""

    def __init__(self, part):
        self.part = part


class BadText(TallyError):
    """A line of a text is not as told (-1: it is no string)."""

    def __init__(self, line):
        self.line = line


class BadTicket(TallyError):
    """A value is no ticket over the digits that are asked for."""

    def __init__(self, ticket):
        self.ticket = ticket


class OtherDigits(TallyError):
    """The digits are not the same."""


class OtherTally(TallyError):
    """The tallies are not equal."""


class BadRewriter(TallyError):
    """A part of a rewriter is not as told."""

    def __init__(self, part):
        self.part = part


class OtherRoll(TallyError):
    """Two tickets have unlike lengths."""


class DoesDouble(TallyError):
    """A count doubles, as the paper shows."""

    def __init__(self, paper):
        self.paper = paper


class Unbounded(TallyError):
    """A tally is not bounded, as the paper shows."""

    def __init__(self, paper):
        self.paper = paper


class BadTold(TallyError):
    """An item is no told sum (-1: the items are no tuple)."""

    def __init__(self, number):
        self.number = number


class CannotBe(TallyError):
    """A book cannot be, as the paper shows."""

    def __init__(self, paper):
        self.paper = paper


class BadDigit(TallyError):
    """A value is no digit of the tally, or both digits are one."""

    def __init__(self, digit):
        self.digit = digit


class BadName(TallyError):
    """A value is no name of a tariff."""

    def __init__(self, name):
        self.name = name


class NameTaken(TallyError):
    """A tariff of this name is kept already."""

    def __init__(self, name):
        self.name = name


class NoName(TallyError):
    """No tariff is kept under this name."""

    def __init__(self, name):
        self.name = name


class BadPromise(TallyError):
    """A value is no promise that the tariff can make."""

    def __init__(self, promise):
        self.promise = promise


class Unkept(TallyError):
    """A promise of a tariff would be broken, as the fault shows."""

    def __init__(self, name, promise, fault):
        self.name = name
        self.promise = promise
        self.fault = fault


class NoPromise(TallyError):
    """The tariff has not promised this."""

    def __init__(self, promise):
        self.promise = promise


class Needed(TallyError):
    """A tariff cannot be dropped: another one promised to be made of it."""

    def __init__(self, name, other):
        self.name = name
        self.other = other


class NothingToUndo(TallyError):
    """There is no deed to take back."""


class NothingToRedo(TallyError):
    """There is no deed to do again."""


class BadDeed(TallyError):
    """The deed with this number is none, or cannot be done."""

    def __init__(self, number):
        self.number = number


class NoStretch(TallyError):
    """Two values tell no stretch of a roll."""

    def __init__(self, low, high):
        self.low = low
        self.high = high


class SoldBefore(TallyError):
    """A ticket is sold already."""

    def __init__(self, ticket):
        self.ticket = ticket


class NotSold(TallyError):
    """A ticket is not sold."""

    def __init__(self, ticket):
        self.ticket = ticket


class InvalidCommand(TallyError):
    """A value is no command."""
