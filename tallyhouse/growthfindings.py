"""Findings of parts 5 to 7: growth, bounds, caps, answers, prizes."""

from tallyhouse.answers import how_many, machine
from tallyhouse.bounds import bounds_hold
from tallyhouse.caps import cap_holds
from tallyhouse.errors import Unbounded
from tallyhouse.growthpapers import growth_holds
from tallyhouse.kinds import count_of, sort_of, tally_of
from tallyhouse.leasts import least
from tallyhouse.prizes import greatest_holds, lowest_holds
from tallyhouse.rows import is_row, is_whole
from tallyhouse.walks import rows_met

# Longer rolls are far beyond the limits: how many of their tickets are worth a number could not even be written.
LONGEST_ROLL = 1000


def is_growth(thing):
    """Whether ("growth", T, paper) holds."""
    word, text, paper = thing
    tally = count_of(text)
    return tally is not None and growth_holds(tally, paper)


def are_bounds(thing):
    """Whether ("bounds", T, paper) holds."""
    word, text, paper = thing
    tally = tally_of(text)
    return tally is not None and bounds_hold(tally, paper)


def is_cap(thing):
    """Whether ("cap", T, cap, paper) holds."""
    word, text, cap, paper = thing
    tally = count_of(text)
    return tally is not None and is_whole(cap) and cap >= 0 and cap_holds(tally, cap, paper)


def is_machine(thing):
    """Whether ("machine", T, moves, worths) holds."""
    word, text, moves, worths = thing
    tally = tally_of(text)
    if tally is None or not isinstance(moves, tuple) or not all([is_row(line) for line in moves]) or not is_row(worths):
        return False
    # A machine has a state for each row met of the least tally: so a tally with more of them has another machine.
    return rows_met(least(tally), len(moves)) is not None and machine(tally) == (moves, worths)


def are_so_many(thing):
    """Whether ("how many", T, number, length, many) holds."""
    word, text, number, length, many = thing
    tally = tally_of(text)
    if tally is None or not all([is_whole(part) for part in (number, length, many)]):
        return False
    if not 0 <= length <= LONGEST_ROLL:
        return False
    try:
        return how_many(tally, number, length) == many
    except Unbounded:
        return False


def is_greatest(thing):
    """Whether ("greatest", T, length, paper) holds."""
    word, text, length, paper = thing
    tally = count_of(text)
    return tally is not None and is_whole(length) and length >= 0 and greatest_holds(tally, length, paper)


def is_lowest(thing):
    """Whether ("lowest", T, length, paper) holds."""
    word, text, length, paper = thing
    tally = count_of(text)
    return tally is not None and is_whole(length) and length >= 0 and lowest_holds(tally, length, paper)


# By the word of a finding and how many parts it has, the word counted.
JUDGES = {
    ("growth", 3): is_growth, ("bounds", 3): are_bounds, ("cap", 4): is_cap, ("machine", 4): is_machine,
    ("how many", 5): are_so_many, ("greatest", 4): is_greatest, ("lowest", 4): is_lowest,
}


def growth_finding_holds(thing):
    """Whether any value is a finding of parts 5 to 7 that holds."""
    sort = sort_of(thing)
    if sort not in JUDGES:
        return False
    judge = JUDGES[sort]
    return judge(thing)
