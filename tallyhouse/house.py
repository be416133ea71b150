"""The house: tariffs under names, editions that come in only if all that was promised still holds, and a log.

What it keeps at a time is a dict, never changed once it is made: for each name the pair of the tuple of the tariff's
editions and the tuple of its promises, each one with the tally that it speaks of if it is "sums", otherwise None.
"""

from tallyhouse.errors import (BadDeed, BadName, BadPromise, NameTaken, Needed, NoName, NoPromise, NothingToUndo,
                               OtherDigits, TallyError, Unkept)
from tallyhouse.promises import fault_of, is_name, is_promise
from tallyhouse.tallies import Tally


class House:
    """Keeps tariffs, their editions and their promises."""

    def __init__(self):
        self.deeds = []
        # What was kept at first, and behind each deed.
        self.states = [{}]

    def __len__(self):
        return len(self.deeds)

    def __eq__(self, other):
        return isinstance(other, House) and self.states[-1] == other.states[-1]

    @classmethod
    def of(cls, log):
        """The house that does the deeds of a log; raises BadDeed with the number of the first that cannot be done."""
        house = cls()
        if not isinstance(log, tuple):
            raise BadDeed(0)
        for number, deed in enumerate(log):
            if not can_do(house, deed):
                raise BadDeed(number)
        return house

    def keep(self, name, tally):
        """Keeps a new tariff with this one edition; raises BadName, NameTaken."""
        if not is_name(name):
            raise BadName(name)
        if name in self.states[-1]:
            raise NameTaken(name)
        note(self, ("keep", name, str(tally)), with_tariff(self.states[-1], name, ((tally,), ())))

    def add_edition(self, name, tally):
        """Adds an edition to a tariff; raises NoName, OtherDigits, Unkept."""
        broken = self.gate(name, tally)
        if broken is not None:
            raise Unkept(broken[0], broken[1], broken[2])
        note(self, ("edition", name, str(tally)), with_edition(self.states[-1], name, tally))

    def make_promise(self, name, promise):
        """Makes a promise of a tariff; raises NoName, BadPromise, Unkept."""
        check_name(self, name)
        tariffs = self.states[-1]
        if not is_promise(promise) or promise in promises_in(tariffs, name):
            raise BadPromise(promise)
        if not are_others(tariffs, name, promise):
            raise BadPromise(promise)
        editions, promises = tariffs[name]
        before = editions[-1] if promise[0] == "sums" else None
        fault = fault_of(editions[-1], promise, before, others_of(tariffs, promise))
        if fault is not None:
            raise Unkept(name, promise, fault)
        changed = (editions, promises + ((promise, before),))
        note(self, ("promise", name, promise), with_tariff(tariffs, name, changed))

    def release(self, name, promise):
        """Releases a promise of a tariff; raises NoName, NoPromise."""
        check_name(self, name)
        tariffs = self.states[-1]
        # Ahead of the comparison, which takes True for 1.
        if not is_promise(promise) or promise not in promises_in(tariffs, name):
            raise NoPromise(promise)
        editions, promises = tariffs[name]
        left = tuple([(other, before) for other, before in promises if other != promise])
        note(self, ("release", name, promise), with_tariff(tariffs, name, (editions, left)))

    def drop(self, name):
        """Keeps a tariff no longer; raises NoName, Needed."""
        check_name(self, name)
        tariffs = self.states[-1]
        for other in sorted(tariffs):
            if any([does_name(promise, name) for promise in promises_in(tariffs, other)]):
                raise Needed(name, other)
        note(self, ("drop", name), {other: tariffs[other] for other in tariffs if other != name})

    def undo(self):
        """Takes the last deed back that was not taken back; raises NothingToUndo."""
        if len(self.deeds) == 0:
            raise NothingToUndo()
        self.deeds.pop()
        self.states.pop()

    def log(self):
        """The tuple of the deeds, in order, without those that were taken back."""
        return tuple(self.deeds)

    def trial(self):
        """Another house, equal to this one, with the same log, independent of it."""
        other = House()
        other.deeds = list(self.deeds)
        other.states = list(self.states)
        return other

    def gate(self, name, tally):
        """(name, promise, fault) of the first promise an edition would break, or None; raises NoName, OtherDigits."""
        check_name(self, name)
        tariffs = self.states[-1]
        if tally.digits != tariffs[name][0][-1].digits:
            raise OtherDigits()
        changed = with_edition(tariffs, name, tally)
        for other in [name] + [word for word in sorted(tariffs) if word != name]:
            for promise, before in changed[other][1]:
                if other == name or does_name(promise, name):
                    fault = fault_of(changed[other][0][-1], promise, before, others_of(changed, promise))
                    if fault is not None:
                        return (other, promise, fault)
        return None

    def names(self):
        """The ascending tuple of the names."""
        return tuple(sorted(self.states[-1]))

    def tariff_now(self, name):
        """The last edition of a tariff; raises NoName."""
        return self.editions(name)[-1]

    def editions(self, name):
        """The tuple of all editions of a tariff; raises NoName."""
        check_name(self, name)
        return self.states[-1][name][0]

    def promises(self, name):
        """The tuple of the promises of a tariff, in order; raises NoName."""
        check_name(self, name)
        return promises_in(self.states[-1], name)


def note(house, deed, tariffs):
    """Notes a deed, and what is kept behind it."""
    house.deeds.append(deed)
    house.states.append(tariffs)


def check_name(house, name):
    """Raises NoName for any value under which no tariff is kept."""
    if not is_name(name) or name not in house.states[-1]:
        raise NoName(name)


def with_tariff(tariffs, name, tariff):
    """What is kept, with this tariff under a name."""
    changed = {other: tariffs[other] for other in tariffs}
    changed[name] = tariff
    return changed


def with_edition(tariffs, name, tally):
    """What is kept, with one more edition of a tariff."""
    editions, promises = tariffs[name]
    return with_tariff(tariffs, name, (editions + (tally,), promises))


def promises_in(tariffs, name):
    """The tuple of the promises of a tariff."""
    return tuple([promise for promise, before in tariffs[name][1]])


def does_name(promise, name):
    """Whether a promise is "made of" and names a tariff."""
    return promise[0] == "made of" and name in promise[1]


def are_others(tariffs, name, promise):
    """Whether all that a promise names, if it is "made of", are other tariffs over the same digits."""
    if promise[0] != "made of":
        return True
    digits = tariffs[name][0][-1].digits
    return all([other != name and other in tariffs and tariffs[other][0][-1].digits == digits for other in promise[1]])


def others_of(tariffs, promise):
    """The tallies, as they are now, of the tariffs that a promise names, if it is "made of"."""
    if promise[0] != "made of":
        return ()
    return tuple([tariffs[other][0][-1] for other in promise[1]])


def can_do(house, thing):
    """Whether any value is a deed that can be done by a house; if so, it is done."""
    if not isinstance(thing, tuple) or len(thing) == 0:
        return False
    try:
        if thing[0] == "drop" and len(thing) == 2:
            house.drop(thing[1])
        elif thing[0] == "keep" and len(thing) == 3:
            house.keep(thing[1], Tally.read(thing[2]))
        elif thing[0] == "edition" and len(thing) == 3:
            house.add_edition(thing[1], Tally.read(thing[2]))
        elif thing[0] == "promise" and len(thing) == 3:
            house.make_promise(thing[1], thing[2])
        elif thing[0] == "release" and len(thing) == 3:
            house.release(thing[1], thing[2])
        else:
            return False
    except TallyError:
        return False
    return True
