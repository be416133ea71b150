"""Promises of tariffs, and the faults that show that a tally does not keep one."""

from tallyhouse.caps import first_above
from tallyhouse.growthpapers import judge_growth
from tallyhouse.leasts import least, rank
from tallyhouse.madeof import judge_made_of
from tallyhouse.making import lessened, nought
from tallyhouse.rows import is_whole, lead_of, products_of
from tallyhouse.sames import first_apart
from tallyhouse.tables import table_sum
from tallyhouse.tallies import Tally
from tallyhouse.tickets import is_ascending

LETTERS = "abcdefghijklmnopqrstuvwxyz"
LONGEST_NAME = 8


def is_name(thing):
    """Whether any value is a name: a word of one to eight letters from a to z."""
    return isinstance(thing, str) and 1 <= len(thing) <= LONGEST_NAME and all([sign in LETTERS for sign in thing])


def are_names(thing):
    """Whether any value is an ascending tuple of one or more names."""
    if not isinstance(thing, tuple) or len(thing) == 0:
        return False
    return all([is_name(part) for part in thing]) and is_ascending(thing)


def is_promise(thing):
    """Whether any value is a promise by its form alone."""
    if not isinstance(thing, tuple) or len(thing) != 2 or not isinstance(thing[0], str):
        return False
    if thing[0] == "made of":
        return are_names(thing[1])
    return thing[0] in ("rank", "cap", "degree", "sums") and is_whole(thing[1]) and thing[1] >= 0


def fault_of(tally, promise, before, others):
    """What shows that a tally does not keep a promise, None if it does.

    "sums" speaks of the tally before, "made of" of the others.
    """
    word, told = promise
    if word == "rank":
        return rank_fault(tally, told)
    if word == "cap":
        return cap_fault(tally, told)
    if word == "degree":
        return degree_fault(tally, told)
    if word == "sums":
        return sums_fault(tally, before, told)
    paper = judge_made_of(tally, others)
    return paper if paper[0] == "barred" else None


def rank_fault(tally, most):
    """The rank, if it is more than promised."""
    found = rank(tally)
    return ("rank", found) if found > most else None


def below_fault(tally):
    """The first place of a tally that has a number below 0, None for a count."""
    parts = (("start", (tally.start,)), ("tables", [row for table in tally.tables for row in table]),
             ("ends", (tally.ends,)))
    for place, rows in parts:
        if any([number < 0 for row in rows for number in row]):
            return ("below", place)
    return None


def cap_fault(tally, cap):
    """The first ticket that is worth more than the cap, or where the tally has a number below 0."""
    if not tally.is_count:
        return below_fault(tally)
    ticket = first_above(tally, cap)
    return None if ticket is None else ("above", ticket)


def degree_fault(tally, most):
    """The paper of a growth that is more than promised, or where the tally has a number below 0."""
    if not tally.is_count:
        return below_fault(tally)
    paper = judge_growth(tally)
    # A chain has as many pieces as the degree tells.
    return None if paper[0] == "power" and len(paper[2]) <= most else paper


def sums_fault(tally, before, more):
    """The first ticket that has other sums than before, over all tickets with so many digits more."""
    change = least(lessened(tally, before))
    table = table_sum(change.tables, len(change))
    ends = change.ends
    for _ in range(more):
        # By the least tally nothing but noughts is worth nothing: and noughts stay as they are.
        if lead_of(ends) < 0:
            return None
        ends = products_of(table, ends)
    ticket = first_apart(Tally(change.digits, change.start, change.tables, ends), nought(change.digits))
    return None if ticket is None else ("apart", ticket)
