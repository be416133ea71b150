"""Tallies of the document, made-up ones, and values of all kinds for the tests."""

import math
import random

from fractions import Fraction

from tallyhouse.rewriters import Rewriter
from tallyhouse.tallies import Tally

ONES = Tally("01", (1, 0), (((1, 0), (0, 1)), ((1, 1), (0, 1))), (0, 1))
VALUE = Tally("01", (1, 0), (((1, 0), (0, 2)), ((1, 1), (0, 2))), (0, 1))
EMPTY = Tally("01", (), ((), ()), ())
DIGITSUM = Tally("012", (1, 0), (((1, 0), (0, 1)), ((1, 1), (0, 1)), ((1, 2), (0, 1))), (0, 1))
ZEROS = Tally("01", (1, 0), (((1, 1), (0, 1)), ((1, 0), (0, 1))), (0, 1))
LENGTH = Tally("01", (1, 0), (((1, 1), (0, 1)), ((1, 1), (0, 1))), (0, 1))
ONE = Tally("01", (1,), (((1,),), ((1,),)), (1,))
TWOS = Tally("0", (1,), (((2,),),), (1,))
EVEN = Tally("0", (1, 0), (((0, 1), (1, 0)),), (1, 0))
ODD = Tally("01", (1, 0), (((1, 0), (0, 1)), ((0, 1), (1, 0))), (0, 1))
PAIRS = Tally("01", (1, 0, 0), (((1, 0, 0), (1, 0, 0), (0, 0, 1)), ((0, 1, 0), (0, 1, 1), (0, 0, 1))), (0, 0, 1))
BOTH = Tally("01", (1, 1), (((2, 0), (0, 1)), ((1, 0), (0, 2))), (1, 1))
TWICE = Rewriter("0", "01", 1, ((0, "0", "0", 0), (0, "0", "1", 0)), (0,))

# Things that are no digits, tickets, rows, texts or papers of anything.
ODDITIES = (
    None, True, False, 0, 1, -1, 10 ** 39, "x", " ", "\n", "~", "a b", (), (1,), ("0",), ("",), (True,), (None,),
    ((),), [], ["0"], [1, 2], {}, {"0": 1}, {1: [2]}, ONES, EMPTY, [ONES], (ONES, VALUE), TWICE, (TWICE,), ((0, 1), (1, 0)),
    [((0,),)], {"a": (1, [2, {"b": None}])}, ("same",), ("apart",), ("apart", None), ("same", None), ("same", [[1]]),
    ("made",), ("made", None), ("made", [0]), ("barred",), ("barred", ()), ("barred", None), ("barred", ((),)),
    ("barred", (("", (1, 2)), None)), ("relations",), ("relations", (), None), ("relations", None, ()), ("at", "", None),
    ("never",), ("never", None), ("never", False), ("never", "0"), ("doubles",), ("doubles", None, 0, None, None),
    ("doubles", "", None, "0", ""), ("doubles", "", 0, "0"), ("power",), ("power", None, None, None), ("power", (), ()),
    ("power", (), (), None), ("power", (), (None,), ""), ("power", ((0, 0), None), (), ""), (ONES,) * 3, (None,) * 4,
    (0,) * 5, ("",) * 4, ({},) * 3, ([],) * 2, ("bounded",), ("bounded", None), ("bounded", ()), ("bounded", [(0,)]),
    ("bounded", (None,)), ("ever",), ("ever", "", "", ""), ("ever", "", None, ""), ("ever", None, "0", ""), ("ever", "", "0"),
    ("within",), ("within", None), ("within", ()), ("within", (0,)), ("above",), ("above", None), ("above", "", ()),
    ("greatest",), ("greatest", "", None), ("greatest", None, ()), ("greatest", "", ()), ("greatest", "", ((),)),
    ("greatest", "", (None,)), ("lowest", "", None), ("lowest", "", ((None,),)), ("lowest", "", (((),), ())),
)


def brute_roll(digits, length):
    """All tickets of a roll, made one by one."""
    if length == 0:
        return [""]
    return [ticket + digit for ticket in brute_roll(digits, length - 1) for digit in digits]


def brute_tickets(digits, longest):
    """All tickets of at most so many digits, in order."""
    return [ticket for length in range(longest + 1) for ticket in brute_roll(digits, length)]


def brute_worth(tally, ticket):
    """The worth, by the words of the document."""
    row = list(tally.start)
    for digit in ticket:
        table = tally.tables[tally.digits.index(digit)]
        row = [sum(row[k] * table[k][j] for k in range(len(row))) for j in range(len(row))]
    return sum(a * b for a, b in zip(row, tally.ends))


def made_up_tally(seed, digits="01", size=3, low=-2, high=2, thin=0.5):
    """A tally with numbers from low to high, many of them 0."""
    chance = random.Random(seed)

    def number():
        return 0 if chance.random() < thin else chance.randint(low, high)

    def row():
        return tuple(number() for _ in range(size))

    tables = tuple(tuple(row() for _ in range(size)) for _ in digits)
    return Tally(digits, tuple(chance.randint(low, high) for _ in range(size)), tables,
                 tuple(chance.randint(low, high) for _ in range(size)))


def made_up_rewriter(seed, digits="01", written="01", size=2, many=6):
    """A rewriter with at most so many moves."""
    chance = random.Random(seed)
    moves = {(chance.randrange(size), chance.choice(digits), chance.choice(written), chance.randrange(size))
             for _ in range(many)}
    ends = [state for state in range(size) if chance.random() < 0.6]
    return Rewriter(digits, written, size, tuple(sorted(moves)), tuple(ends))


def brute_rank(rows):
    """The rank of rows, by fractions."""
    rows = [[Fraction(number) for number in row] for row in rows]
    found = 0
    for place in range(len(rows[0]) if rows else 0):
        firsts = [k for k in range(found, len(rows)) if rows[k][place] != 0]
        if firsts:
            rows[found], rows[firsts[0]] = rows[firsts[0]], rows[found]
            for k in range(found + 1, len(rows)):
                factor = rows[k][place] / rows[found][place]
                rows[k] = [a - factor * b for a, b in zip(rows[k], rows[found])]
            found += 1
    return found


def brute_spanned(rows, row):
    """Whether a row is spanned by rows, by fractions."""
    return brute_rank(list(rows) + [row]) == brute_rank(rows) if row else True


def led(row, table):
    """What a row is led on to by a table."""
    return tuple(sum(row[k] * table[k][j] for k in range(len(row))) for j in range(len(row)))


def spoiled(thing, chance):
    """A value like another one, with something otherwise."""
    if isinstance(thing, tuple) and thing and chance.random() < 0.9:
        place = chance.randrange(len(thing))
        kind = chance.random()
        if kind < 0.6:
            return thing[:place] + (spoiled(thing[place], chance),) + thing[place + 1:]
        if kind < 0.7:
            return thing[:place] + thing[place + 1:]
        if kind < 0.8:
            return thing + (thing[place],)
        if kind < 0.9:
            other = chance.randrange(len(thing))
            parts = list(thing)
            parts[place], parts[other] = parts[other], parts[place]
            return tuple(parts)
        return list(thing)
    if isinstance(thing, bool):
        return int(thing) if chance.random() < 0.5 else not thing
    if isinstance(thing, int):
        return chance.choice((thing + 1, thing - 1, -thing, str(thing), None, thing == 1, 10 ** 39, 2 * thing))
    if isinstance(thing, str):
        return chance.choice((thing + "0", thing[1:], thing + "x", None, 0, (), thing[::-1], " "))
    return chance.choice((None, 0, "", ()))


def made_up_count(seed, digits="01", size=3, high=2, thin=0.5):
    """A tally without numbers below 0."""
    return made_up_tally(seed, digits, size, 0, high, thin)


def lowest_terms(thing):
    """Whether any value is a fraction, by the words of the document."""
    if type(thing) is not tuple or len(thing) != 2 or [type(part) for part in thing] != [int, int]:
        return False
    return thing[1] >= 1 and math.gcd(*thing) == 1
