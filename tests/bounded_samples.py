"""Tallies with finitely many worths, and such that only just have more, for the tests of bounds and answers."""

import random

from tallyhouse.leasts import rank
from tallyhouse.making import added, lessened, lone, met, multiplied, times
from tallyhouse.tallies import Tally
from tests.samples import EMPTY, EVEN, LENGTH, ODD, ONE, ONES, TWOS, VALUE, ZEROS, led, made_up_tally


def companion(parts):
    """The worths 0, 0, 0, 1, and from then on each one the sum of the four ahead of it, so many times each."""
    table = ((0, 0, 0, parts[0]), (1, 0, 0, parts[1]), (0, 1, 0, parts[2]), (0, 0, 1, parts[3]))
    return Tally("0", (0, 0, 0, 1), (table,), (1, 0, 0, 0))


def product(one, other):
    return tuple(led(row, other) for row in one)


def made_up_table(chance, size, kind):
    """A table with few powers: of states that go to states, perhaps with a sign, perhaps to none, in other states."""
    goals = list(range(size))
    chance.shuffle(goals)
    if kind == "maps":
        goals = [chance.randrange(size + 1) for _ in range(size)]
    return tuple(tuple(chance.choice((1, -1)) if place == goal else 0 for place in range(size)) for goal in goals)


def in_other_states(chance, table):
    size = len(table)
    if size < 2:
        return table
    one, other = chance.sample(range(size), 2)
    there = [[int(i == j) for j in range(size)] for i in range(size)]
    back = [row[:] for row in there]
    there[one][other] = 1
    back[one][other] = -1
    return product(product(tuple(map(tuple, there)), table), tuple(map(tuple, back)))


def made_up(seed):
    chance = random.Random(seed)
    digits, size = chance.choice(("0", "01", "012")), chance.randrange(1, 5)
    if seed % 4 == 0:
        return made_up_tally(seed, digits, size, -1, 1, chance.choice((0.5, 0.7)))
    tables = []
    for _ in digits:
        table = made_up_table(chance, size, "maps" if seed % 2 else "rounds")
        tables.append(in_other_states(chance, table) if seed % 4 == 3 and chance.random() < 0.5 else table)
    return Tally(digits, tuple(chance.randint(-1, 1) for _ in range(size)), tuple(tables),
                 tuple(chance.randint(-1, 2) for _ in range(size)))


# Any order of four states, and any signs: 384 tables.
SIGNED = Tally("012", (0, 1, 2, 3), (((0, 1, 0, 0), (0, 0, 1, 0), (0, 0, 0, 1), (1, 0, 0, 0)),
                                     ((0, 1, 0, 0), (1, 0, 0, 0), (0, 0, 1, 0), (0, 0, 0, 1)),
                                     ((-1, 0, 0, 0), (0, 1, 0, 0), (0, 0, 1, 0), (0, 0, 0, 1))), (1, 0, 0, 0))
THIRDS = Tally("01", (1, 0, 0), (((1, 0, 0), (0, 1, 0), (0, 0, 1)), ((0, 1, 0), (0, 0, 1), (1, 0, 0))), (0, 1, 2))
BOUNDED = [EMPTY, ODD, ONE, EVEN, THIRDS, lone("01", ""), lone("01", "0"), lone("01", "10"), lone("012", "210"),
           lone("5", "555"), times(-3, lone("01", "01")), added(ODD, ONE), multiplied(ODD, ODD), lessened(ODD, ONE),
           times(10 ** 6, ODD), Tally("0", (1,), (((-1,),),), (7,)), Tally("01", (1,), (((0,),), ((1,),)), (1,)),
           lessened(ONES, ONES), lessened(added(ONES, ODD), ONES), Tally("0", (5, 5), (((0, 9), (0, 0)),), (1, 1)), SIGNED]
GROWING = [ONES, VALUE, LENGTH, TWOS, ZEROS, met(ODD, ODD), lessened(ONES, ZEROS), multiplied(ONES, ODD),
           Tally("0", (1, 0), (((-1, 1), (0, -1)),), (0, 1)), Tally("0", (1,), (((-2,),),), (1,)),
           Tally("01", (1, 0), (((0, 1), (1, 0)), ((1, 0), (0, 2))), (1, 0))]
MADE_UP = [tally for tally in map(made_up, range(120)) if rank(tally) <= 4]
