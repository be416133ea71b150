"""Whether a goal is made of given tallies, by integers or by fractions, and the papers that show it."""

from tallyhouse.kernels import kernel_of, multiple_by, step_by
from tallyhouse.lattices import bar_for, basis_of, fractions_for, numbers_for
from tallyhouse.quotients import are_fractions, bottom_of, is_fraction, multiples_of
from tallyhouse.relations import check_given, is_relation, making_worths, rank_together, telling_worths, worth_rows
from tallyhouse.rows import is_row_of, product_of
from tallyhouse.tickets import are_in_order
from tallyhouse.walks import worths_in_order


def is_made_of(goal, given):
    """Whether the goal is made of the given tallies by integers; raises OtherDigits."""
    return judge_made_of(goal, given)[0] == "made"


def judge_made_of(goal, given):
    """A paper "made" or "barred" of the sort by integers; raises OtherDigits."""
    tickets, columns, aim = columns_of(making_worths(given + (goal,)), len(given))
    numbers = numbers_for(columns, aim)
    if numbers is not None:
        return ("made", numbers)
    return ("barred", paired(tickets, bar_for(columns, aim)))


def made_of_holds(goal, given, thing):
    """Whether any value is a paper "made" or "barred" of the sort by integers; raises OtherDigits."""
    check_given(given + (goal,))
    if not isinstance(thing, tuple) or len(thing) != 2:
        return False
    if thing[0] == "made":
        return is_row_of(thing[1], len(given)) and is_relation(given + (goal,), thing[1] + (-1,))
    if thing[0] != "barred" or not are_pairs(goal.digits, thing[1]):
        return False
    found, bottom = sums_of(given + (goal,), thing[1])
    return all([number % bottom == 0 for number in found[:-1]]) and found[-1] % bottom != 0


def least_multiple(goal, given):
    """The least multiple of the goal, None if it is not made by fractions; raises OtherDigits."""
    tickets, columns, aim = columns_of(making_worths(given + (goal,)), len(given))
    return multiple_by(basis_of(columns), aim)


def step_of(given):
    """The step of given tallies; raises OtherDigits."""
    return step_by(worth_rows(given), len(given))


def is_made_by_fractions(goal, given):
    """Whether the goal is made of the given tallies by fractions; raises OtherDigits."""
    return rank_together(given + (goal,)) == rank_together(given)


def judge_by_fractions(goal, given):
    """A paper "made" or "barred" of the sort by fractions; raises OtherDigits."""
    tickets, columns, aim = columns_of(telling_worths(given + (goal,)), len(given))
    fractions = fractions_for(columns, aim)
    if fractions is not None:
        return ("made", fractions)
    # The worth rows with the goal are of a rank that is greater by one than that of the given worths alone: so there
    # is just one way to have sums of 0 by the given tallies, and it has not 0 by the goal.
    numbers = kernel_of(columns, len(tickets))[0]
    return ("barred", paired(tickets, [(number, 1) for number in numbers]))


def by_fractions_hold(goal, given, thing):
    """Whether any value is a paper "made" or "barred" of the sort by fractions; raises OtherDigits."""
    check_given(given + (goal,))
    if not isinstance(thing, tuple) or len(thing) != 2:
        return False
    if thing[0] == "made":
        if not are_fractions(thing[1], len(given)):
            return False
        return is_relation(given + (goal,), multiples_of(thing[1] + ((-1, 1),)))
    if thing[0] != "barred" or not are_pairs(goal.digits, thing[1]):
        return False
    found, bottom = sums_of(given + (goal,), thing[1])
    return all([number == 0 for number in found[:-1]]) and found[-1] != 0


def columns_of(pairs, many):
    """Of pairs (ticket, worth row): the tickets, and the rows of their worths by each given tally and by the goal."""
    columns = [tuple([row[place] for ticket, row in pairs]) for place in range(many + 1)]
    return [ticket for ticket, row in pairs], tuple(columns[:many]), columns[many]


def paired(tickets, fractions):
    """The pairs (ticket, fraction) without those whose fraction is 0."""
    return tuple([(ticket, fraction) for ticket, fraction in zip(tickets, fractions) if fraction[0] != 0])


def are_pairs(digits, thing):
    """Whether any value is a tuple of pairs of a ticket and a fraction other than 0, the tickets in order."""
    if not isinstance(thing, tuple) or not all([isinstance(part, tuple) and len(part) == 2 for part in thing]):
        return False
    if not all([is_fraction(part[1]) and part[1][0] != 0 for part in thing]):
        return False
    return are_in_order(digits, tuple([part[0] for part in thing]))


def sums_of(tallies, pairs):
    """For each tally the sum of its worths, each times its fraction: as integers, and by what they are to be divided.

    (Fractions that are added one by one would be slow: their common divisors would have to be found each time.)
    """
    parts = multiples_of([fraction for ticket, fraction in pairs])
    tickets = [ticket for ticket, fraction in pairs]
    found = [product_of(worths_in_order(tally, tickets), parts) for tally in tallies]
    return found, bottom_of([fraction for ticket, fraction in pairs])
