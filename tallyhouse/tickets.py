"""Digits, tickets over them, rolls, and the order of tickets."""


def is_ascending(things):
    """Whether each thing is less than the one behind it."""
    return all([one < other for one, other in zip(things, things[1:])])


def are_digits(thing):
    """Whether any value is digits: one to ten ascending characters 0 to 9."""
    if not isinstance(thing, str) or len(thing) == 0:
        return False
    return all([sign in "0123456789" for sign in thing]) and is_ascending(thing)


def is_digit(digits, thing):
    """Whether any value is one of the digits."""
    return isinstance(thing, str) and len(thing) == 1 and thing in digits


def is_ticket(digits, thing):
    """Whether any value is a ticket over the digits."""
    return isinstance(thing, str) and all([sign in digits for sign in thing])


def are_in_order(digits, thing):
    """Whether any value is a tuple of tickets over the digits, in order, each once."""
    if not isinstance(thing, tuple) or not all([is_ticket(digits, part) for part in thing]):
        return False
    return all([is_ahead(one, other) for one, other in zip(thing, thing[1:])])


def is_stretch(digits, low, high):
    """Whether any two values are tickets over the digits, of one length, the first one not behind the second one."""
    if not is_ticket(digits, low) or not is_ticket(digits, high):
        return False
    return len(low) == len(high) and low <= high


def roll(digits, length):
    """The ascending tuple of all tickets of so many digits."""
    tickets = [""]
    for _ in range(length):
        tickets = [ticket + digit for ticket in tickets for digit in digits]
    return tuple(tickets)


def is_ahead(one, other):
    """Whether a ticket is ahead of another one: shorter, or as long and less."""
    return (len(one), one) < (len(other), other)
