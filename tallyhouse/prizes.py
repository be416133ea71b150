"""The greatest and the lowest worths of the rolls of a count, their tickets, and the papers that show them.

All of it goes by layers: for each number of digits the highest (or lowest) rows of the tickets of so many digits.
What is told of both has an argument more: upper is True for the greatest worths and False for the lowest ones.
"""

from tallyhouse.firsts import first_with
from tallyhouse.fronts import are_covered, front_of
from tallyhouse.paths import states_leading_to, support, trimmed, trimmed_row
from tallyhouse.rows import are_rows, led_on, product_of
from tallyhouse.tallies import check_ticket
from tallyhouse.tickets import is_ascending, is_ticket


def leading_to_ends(tally):
    """The ascending list of the states that lead to an end."""
    return states_leading_to(tally, support(tally.ends))


def layers_from(tally, row, length, upper):
    """For 0, 1, .. digits, up to a length, the highest or lowest rows to which so many digits lead a row."""
    states = leading_to_ends(tally)
    tables = trimmed(tally, states).tables
    layers = [(trimmed_row(states, row),)]
    for _ in range(length):
        layers.append(front_of([led_on(line, table) for line in layers[-1] for table in tables], upper))
    return tuple(layers)


def best_worth(tally, rows, upper):
    """The greatest or lowest worth of some rows."""
    worths = [product_of(row, tally.ends) for row in rows]
    return max(worths) if upper else min(worths)


def best_behind(tally, ticket, more, upper):
    """The greatest or lowest worth of the tickets that begin with a ticket and have so many digits more."""
    check_ticket(tally.digits, ticket)
    return best_worth(tally, layers_from(tally, tally.row(ticket), more, upper)[-1], upper)


def best_worths(tally, many, upper):
    """The greatest or lowest worths of the rolls of 0, 1, .. digits, so many."""
    layers = layers_from(tally, tally.start, max(many - 1, 0), upper)
    return tuple([best_worth(tally, layer, upper) for layer in layers[:many]])


def judge_best(tally, length, upper):
    """A paper "greatest" or "lowest"."""
    layers = layers_from(tally, tally.start, length, upper)
    ticket = first_with(tally, layers, best_worth(tally, layers[-1], upper))
    return ("greatest" if upper else "lowest", ticket, layers)


def greatest(tally, length):
    """The greatest worth of a roll."""
    return best_behind(tally, "", length, True)


def lowest(tally, length):
    """The lowest worth of a roll."""
    return best_behind(tally, "", length, False)


def greatest_behind(tally, ticket, more):
    """The greatest worth of the tickets that begin with a ticket and have so many digits more; raises BadTicket."""
    return best_behind(tally, ticket, more, True)


def lowest_behind(tally, ticket, more):
    """The lowest worth of the tickets that begin with a ticket and have so many digits more; raises BadTicket."""
    return best_behind(tally, ticket, more, False)


def greatests(tally, many):
    """The greatest worths of the rolls of 0, 1, .. digits, so many."""
    return best_worths(tally, many, True)


def lowests(tally, many):
    """The lowest worths of the rolls of 0, 1, .. digits, so many."""
    return best_worths(tally, many, False)


def highest_rows(tally, length):
    """The ascending tuple of the highest rows of a roll."""
    return layers_from(tally, tally.start, length, True)[-1]


def lowest_rows(tally, length):
    """The ascending tuple of the lowest rows of a roll."""
    return layers_from(tally, tally.start, length, False)[-1]


def is_below(tally, one, other):
    """Whether a row is below another one."""
    return all([one[state] <= other[state] for state in leading_to_ends(tally)])


def greatest_ticket(tally, length):
    """The first ticket of a roll with the greatest worth."""
    return judge_greatest(tally, length)[1]


def lowest_ticket(tally, length):
    """The first ticket of a roll with the lowest worth."""
    return judge_lowest(tally, length)[1]


def judge_greatest(tally, length):
    """A paper "greatest"."""
    return judge_best(tally, length, True)


def judge_lowest(tally, length):
    """A paper "lowest"."""
    return judge_best(tally, length, False)


def greatest_holds(tally, length, thing):
    """Whether any value is a paper "greatest"."""
    return does_best_hold(tally, length, thing, True)


def lowest_holds(tally, length, thing):
    """Whether any value is a paper "lowest"."""
    return does_best_hold(tally, length, thing, False)


def does_best_hold(tally, length, thing, upper):
    """Whether any value is a paper "greatest" or "lowest"."""
    if not isinstance(thing, tuple) or len(thing) != 3 or thing[0] != ("greatest" if upper else "lowest"):
        return False
    if not is_ticket(tally.digits, thing[1]) or len(thing[1]) != length or not are_layers(tally, length, thing[2]):
        return False
    worths = [product_of(row, tally.ends) for row in thing[2][-1]] + [tally.worth(thing[1])]
    if worths[-1] != (max(worths) if upper else min(worths)):
        return False
    return do_layers_cover(tally, thing[2], upper)


def are_layers(tally, length, thing):
    """Whether any value is a tuple of a tuple for each digit and one more: ascending rows of numbers from 0 on."""
    if not isinstance(thing, tuple) or len(thing) != length + 1:
        return False
    if not all([are_rows(layer, len(tally)) and len(layer) > 0 and is_ascending(layer) for layer in thing]):
        return False
    return all([number >= 0 for layer in thing for row in layer for number in row])


def do_layers_cover(tally, layers, upper):
    """Whether the start is below a row of the first layer, and what a row is led on to below one of the next layer."""
    states = leading_to_ends(tally)
    told = trimmed(tally, states)
    rows = [told.start]
    for layer in layers:
        tops = [trimmed_row(states, row) for row in layer]
        if not are_covered(rows, tops, upper):
            return False
        rows = [led_on(row, table) for row in tops for table in told.tables]
    return True
