"""The console: commands to a house with told sums, one line each."""

from tallyhouse.commands import command_of
from tallyhouse.errors import (BadPromise, InvalidCommand, NameTaken, Needed, NoName, NoPromise, NothingToUndo, Unkept)
from tallyhouse.house import House
from tallyhouse.kinds import tally_of
from tallyhouse.replies import reply_to
from tallyhouse.tickets import is_stretch, is_ticket


class Console:
    """Answers commands."""

    def __init__(self):
        self.house = House()
        # The told sums of each tariff, by its name: never changed once it is made.
        self.told = {}
        # For each change that was not taken back: what was told ahead of it, and whether the house did a deed.
        self.changes = []

    def run(self, command):
        """The answer to a command."""
        word, kinds, parts = command_of(command)
        if word == "keep":
            return keep_tariff(self, parts[0], parts[1])
        check_names(self.house, kinds, parts)
        if len(parts) > 0:
            check_tickets(self.house.tariff_now(parts[0]).digits, kinds, parts)
        if word in CHANGES:
            change = CHANGES[word]
            return change(self, parts)
        return reply_to(word, self.house, self.told, parts)

    def house_now(self):
        """A trial of the house as it is now."""
        return self.house.trial()


def check_names(house, kinds, parts):
    """Raises NoName with the first name, in order, under which no tariff is kept."""
    kept = house.names()
    for kind, part in zip(kinds, parts):
        if kind == "name" and part not in kept:
            raise NoName(part)
        if kind == "names":
            for name in part:
                if name not in kept:
                    raise NoName(name)


def check_tickets(digits, kinds, parts):
    """Raises InvalidCommand for tickets that are none, and for two that are no range."""
    tickets = [part for kind, part in zip(kinds, parts) if kind == "ticket"]
    if not all([is_ticket(digits, ticket) for ticket in tickets]):
        raise InvalidCommand()
    if len(tickets) == 2 and not is_stretch(digits, tickets[0], tickets[1]):
        raise InvalidCommand()


def keep_tariff(console, name, text):
    """Keeps a tariff; raises NameTaken, InvalidCommand."""
    if name in console.house.names():
        raise NameTaken(name)
    tally = tally_of(text)
    if tally is None:
        raise InvalidCommand()
    console.house.keep(name, tally)
    return changed(console, with_told(console.told, name, ()), True)


def add_edition(console, parts):
    """Adds an edition, and forgets what was told, unless a promise would be broken; raises InvalidCommand."""
    name, text = parts
    tally = tally_of(text)
    if tally is None or tally.digits != console.house.tariff_now(name).digits:
        raise InvalidCommand()
    try:
        console.house.add_edition(name, tally)
    except Unkept:
        return "unkept"
    return changed(console, with_told(console.told, name, ()), True)


def drop_tariff(console, parts):
    """Drops a tariff, and forgets what was told, unless another one needs it."""
    try:
        console.house.drop(parts[0])
    except Needed:
        return "needed"
    return changed(console, {name: console.told[name] for name in console.told if name != parts[0]}, True)


def make_promise(console, parts):
    """Makes a promise, unless it is not kept; raises InvalidCommand."""
    try:
        console.house.make_promise(parts[0], parts[1])
    except BadPromise:
        raise InvalidCommand()
    except Unkept:
        return "unkept"
    return changed(console, console.told, True)


def release_promise(console, parts):
    """Releases a promise; raises InvalidCommand."""
    try:
        console.house.release(parts[0], parts[1])
    except NoPromise:
        raise InvalidCommand()
    return changed(console, console.told, True)


def tell_sum(console, parts):
    """Tells one sum more of a tariff."""
    name, low, high, amount = parts
    return changed(console, with_told(console.told, name, console.told[name] + ((low, high, amount),)), False)


def take_back(console, parts):
    """Takes the last change back that was not taken back; raises NothingToUndo."""
    if len(console.changes) == 0:
        raise NothingToUndo()
    told, is_deed = console.changes.pop()
    console.told = told
    if is_deed:
        console.house.undo()
    return "ok"


def with_told(told, name, items):
    """The told sums of all tariffs, with these of one."""
    changed_told = {other: told[other] for other in told}
    changed_told[name] = items
    return changed_told


def changed(console, told, is_deed):
    """Notes a change, behind which this is told, and answers it."""
    console.changes.append((console.told, is_deed))
    console.told = told
    return "ok"


CHANGES = {
    "edition": add_edition, "drop": drop_tariff, "promise": make_promise, "release": release_promise, "tell": tell_sum,
    "undo": take_back,
}
