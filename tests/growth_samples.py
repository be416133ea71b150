"""Counts, and what the tables of all their tickets tell, by the words of the document."""

import itertools

from tallyhouse.making import added, ahead, lone, met, multiplied, nought, turned
from tallyhouse.tallies import Tally
from tests.samples import EMPTY, EVEN, LENGTH, ONE, ONES, TWOS, VALUE, ZEROS, made_up_count

# How many digits 1 times how many 0 ahead of each: pairs of a 0 and a 1 behind it.
CROSSED = Tally("01", (1, 0, 0), (((1, 1, 0), (0, 1, 0), (0, 0, 1)), ((1, 0, 0), (0, 1, 1), (0, 0, 1))), (0, 0, 1))
# A state that is not led to doubles, and one that leads to no end does.
USELESS = Tally("01", (1, 0, 0), (((1, 0, 1), (1, 2, 0), (0, 0, 2)), ((0, 0, 1), (0, 2, 1), (0, 0, 3))), (1, 1, 0))
# Two ways through two states, by 01 alone.
SPLIT = Tally("01", (1, 0, 0), (((0, 1, 1), (0, 0, 0), (0, 0, 0)), ((0, 0, 0), (1, 0, 0), (1, 0, 0))), (1, 0, 0))
# States in a row: each digit may go one further.
ROW = Tally("01", (1, 0, 0, 0), (((1, 1, 0, 0), (0, 1, 1, 0), (0, 0, 1, 1), (0, 0, 0, 1)),
                                 ((1, 0, 0, 0), (0, 1, 0, 0), (0, 0, 1, 0), (0, 0, 0, 1))), (0, 0, 0, 1))
# A rise by 1, and behind it by 0 another one.
CHAIN = Tally("01", (1, 0, 0, 0), (((0, 0, 0, 0), (0, 0, 1, 0), (0, 0, 1, 1), (0, 0, 0, 1)),
                                   ((1, 1, 0, 0), (0, 1, 0, 0), (0, 0, 0, 0), (0, 0, 0, 0))), (0, 0, 0, 1))
# The loop of a rise has two digits, each state comes round by both alone.
ROUNDS = Tally("01", (1, 0, 0, 0), (((0, 1, 0, 0), (0, 0, 0, 0), (0, 0, 0, 1), (0, 0, 0, 0)),
                                    ((0, 0, 0, 0), (1, 0, 1, 0), (0, 0, 0, 0), (0, 0, 1, 0))), (0, 0, 1, 0))

KNOWN = [EMPTY, nought("7"), ONES, VALUE, ZEROS, LENGTH, ONE, TWOS, EVEN, CROSSED, USELESS, SPLIT, ROW, CHAIN, ROUNDS,
         lone("01", "011"), added(ONES, ONE), turned(CROSSED), ahead(ONES, "1"), Tally("0", (1, 0), (((1, 1), (0, 1)),), (0, 0)),
         Tally("0", (0, 0), (((1, 1), (0, 1)),), (1, 1)), Tally("0", (1, 0), (((1, 1), (1, 0)),), (0, 1)),
         Tally("3", (1, 0, 0), (((0, 1, 0), (0, 0, 1), (1, 0, 1)),), (1, 0, 0))]
MADE_UP = ([made_up_count(seed, "01", size, 1, thin) for seed in range(8) for size in (1, 2, 3) for thin in (0.4, 0.6, 0.75)]
           + [made_up_count(seed, "012", 3, 2, 0.75) for seed in range(12)]
           + [made_up_count(seed, "5", 4, 1, 0.6) for seed in range(12)]
           + [made_up_count(seed, "01", 4, 1, 0.8) for seed in range(12)])
COUNTS = KNOWN + MADE_UP
GREAT = [multiplied(ONES, ONES), turned(multiplied(ONES, ONES)), multiplied(multiplied(ONES, ZEROS), ONES),
         met(ROW, ONES), met(met(ONES, ZEROS), CROSSED), added(ROW, CHAIN), multiplied(CROSSED, turned(CROSSED)),
         added(multiplied(ONES, ZEROS), VALUE), added(met(ONE, ONE), ROW)]


def cut(number):
    return min(number, 2)


def tables_of(tally):
    """The tables of all tickets, each number above 2 put to 2: each with its first ticket; the empty one's apart."""
    size = len(tally)
    unit = tuple(tuple(int(i == j) for j in range(size)) for i in range(size))
    steps = [tuple(tuple(map(cut, row)) for row in table) for table in tally.tables]
    found = {}
    last = [("", unit)]
    while last:
        fresh = []
        for ticket, table in last:
            for digit, step in zip(tally.digits, steps):
                longer = tuple(tuple(cut(sum(row[k] * step[k][j] for k in range(size))) for j in range(size)) for row in table)
                if longer not in found:
                    found[longer] = ticket + digit
                    fresh.append((ticket + digit, longer))
        last = fresh
    return unit, found


def brute_leads(tally):
    """All pairs of states of which some ticket leads from the first to the second one."""
    unit, tables = tables_of(tally)
    return {(p, q) for table in list(tables) + [unit] for p, row in enumerate(table) for q, number in enumerate(row) if number}


def brute_useful(tally):
    leads = brute_leads(tally)
    states = range(len(tally))
    return tuple(q for q in states if any(tally.start[p] and (p, q) in leads for p in states)
                 and any(tally.ends[r] and (q, r) in leads for r in states))


def brute_doubling(tally):
    unit, tables = tables_of(tally)
    return tuple(q for q in brute_useful(tally) if any(table[q][q] >= 2 for table in tables))


def brute_rises(tally):
    unit, tables = tables_of(tally)
    states = brute_useful(tally)
    return tuple((p, q) for p in states for q in states if p != q
                 and any(table[p][p] and table[p][q] and table[q][q] for table in tables))


def brute_degree(tally):
    if brute_doubling(tally):
        return None
    leads, rises = brute_leads(tally), brute_rises(tally)

    def longest(rise):
        return 1 + max((longest(other) for other in rises if (rise[1], other[0]) in leads), default=0)
    return max(map(longest, rises), default=0)


def are_right_levels(tally, levels):
    """Whether a dict of levels, for each useful state, falls by no digit and goes up by each rise."""
    states = brute_useful(tally)
    if any(table[p][q] and levels[q] < levels[p] for table in tally.tables for p in states for q in states):
        return False
    return all(levels[q] > levels[p] for p, q in brute_rises(tally))


def brute_levels(tally):
    """The least levels, of all of them."""
    states = brute_useful(tally)
    right = [levels for levels in itertools.product(range(len(states) + 1), repeat=len(states))
             if are_right_levels(tally, dict(zip(states, levels)))]
    return tuple((state, min(levels[place] for levels in right)) for place, state in enumerate(states))
