"""The commands of a console, as far as words, names, promises and integers tell."""

from tallyhouse.errors import InvalidCommand
from tallyhouse.promises import are_names, is_name
from tallyhouse.texts import is_number_text, number_in

# What stands behind the first word. A text takes all words that are left, a promise the last two.
FORMS = {
    "keep": ("name", "text"), "edition": ("name", "text"), "drop": ("name",), "promise": ("name", "promise"),
    "release": ("name", "promise"), "tell": ("name", "ticket", "ticket", "number"), "undo": (), "names": (),
    "tariff": ("name",), "promises": ("name",), "worth": ("name", "ticket"), "sum": ("name", "ticket", "ticket"),
    "roll": ("name", "roll"), "takings": ("name", "ticket", "amount"), "same": ("name", "name"), "rank": ("name",),
    "least": ("name",), "made": ("name", "names"), "growth": ("name",), "cap": ("name",), "bounded": ("name",),
    "greatest": ("name", "prize"), "lowest": ("name", "prize"), "can": ("name",), "suspects": ("name",),
    "worths": ("name", "ticket"), "open": ("name",), "ask": ("name",),
}
MOST_FIGURES = 40
# The least and the greatest integer of each kind, where there is one.
LEAST = {"amount": 1, "roll": 0, "prize": 0, "promised": 0}
MOST = {"roll": 40, "prize": 30}


def command_of(thing):
    """The first word, the kinds of the parts, and the parts of a command; raises InvalidCommand for other values."""
    if not isinstance(thing, str) or "\n" in thing:
        raise InvalidCommand()
    words = thing.split(" ")
    if "" in words or words[0] not in FORMS:
        raise InvalidCommand()
    kinds = FORMS[words[0]]
    told = words[1:]
    if kinds[-1:] in (("text",), ("promise",)):
        head = len(kinds) - 1
        told = told[:head] + [" ".join(told[head:])]
    if len(told) != len(kinds):
        raise InvalidCommand()
    return words[0], kinds, tuple([part_of(kind, text) for kind, text in zip(kinds, told)])


def part_of(kind, text):
    """What a part of a command stands for; raises InvalidCommand."""
    if kind == "name":
        if not is_name(text):
            raise InvalidCommand()
        return text
    if kind == "names":
        names = tuple(text.split(","))
        if not are_names(names):
            raise InvalidCommand()
        return names
    if kind == "ticket":
        return "" if text == "-" else text
    if kind == "text":
        if text == "":
            raise InvalidCommand()
        return text.replace(";", "\n")
    return promise_of(text) if kind == "promise" else number_of(kind, text)


def promise_of(text):
    """The promise of two words; raises InvalidCommand."""
    word, blank, told = text.partition(" ")
    if word == "made":
        return ("made of", part_of("names", told))
    if word not in ("rank", "cap", "degree", "sums"):
        raise InvalidCommand()
    return (word, number_of("promised", told))


def number_of(kind, text):
    """The integer of a word, within its bounds; raises InvalidCommand."""
    if not is_number_text(text) or len(text.removeprefix("-")) > MOST_FIGURES:
        raise InvalidCommand()
    number = number_in(text)
    if number < LEAST.get(kind, number) or number > MOST.get(kind, number):
        raise InvalidCommand()
    return number


def ticket_word(ticket):
    """A ticket as commands write it."""
    return "-" if ticket == "" else ticket


def text_words(tally):
    """The text of a tally as commands write it."""
    return str(tally).replace("\n", ";")


def promise_words(promise):
    """A promise as commands write it."""
    if promise[0] == "made of":
        return "made " + ",".join(promise[1])
    return promise[0] + " " + str(promise[1])
