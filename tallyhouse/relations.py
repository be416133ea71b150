"""The worth rows of given tallies, and the relations between the tallies."""

from tallyhouse.errors import OtherDigits
from tallyhouse.kernels import kernel_of
from tallyhouse.lattices import basis_of, fresh_places
from tallyhouse.making import added, times
from tallyhouse.rows import are_rows, is_row_of, noughts, product_of, products_of
from tallyhouse.spans import span_of, widened
from tallyhouse.tallies import check_ticket
from tallyhouse.tickets import are_in_order
from tallyhouse.walks import making_rows, telling_rows, worths_in_order


def check_given(given):
    """Raises OtherDigits if tallies have not all the same digits."""
    if any([tally.digits != given[0].digits for tally in given]):
        raise OtherDigits()


def combined(given, numbers):
    """A tally by which each ticket is worth the product of its worth row with the numbers; raises OtherDigits."""
    check_given(given)
    found = times(numbers[0], given[0])
    for number, tally in zip(numbers[1:], given[1:]):
        found = added(found, times(number, tally))
    return found


def joint_tally(given):
    """A tally whose rows are those of the given tallies, one behind the other; what it is worth plays no part."""
    return combined(given, noughts(len(given)))


def worths_from(given, rows):
    """The worth rows that rows of the joint tally have."""
    columns = []
    size = sum([len(tally) for tally in given])
    ahead = 0
    for tally in given:
        columns.append(noughts(ahead) + tally.ends + noughts(size - ahead - len(tally)))
        ahead += len(tally)
    return [products_of(columns, row) for row in rows]


def worth_row(given, ticket):
    """The worths of a ticket by each of the given tallies; raises OtherDigits, BadTicket."""
    check_given(given)
    check_ticket(given[0].digits, ticket)
    return tuple([tally.worth(ticket) for tally in given])


def making_worths(given):
    """Pairs (ticket, worth row), in order, that make the worth rows of all tickets; raises OtherDigits."""
    pairs = making_rows(joint_tally(given))
    worths = worths_from(given, [row for ticket, row in pairs])
    return [(pairs[place][0], worths[place]) for place in fresh_places(worths)]


def telling_worths(given):
    """Pairs (telling ticket, worth row), in order; raises OtherDigits.

    A ticket whose row is spanned by the rows of tickets ahead has a worth row that is spanned by theirs, too.
    """
    pairs = telling_rows(joint_tally(given))
    basis = []
    found = []
    for (ticket, row), worths in zip(pairs, worths_from(given, [row for ticket, row in pairs])):
        wider = widened(basis, worths)
        if len(wider) > len(basis):
            basis = wider
            found.append((ticket, worths))
    return found


def worth_rows(given):
    """The Hermite basis of the worth lattice; raises OtherDigits."""
    return basis_of([worths for ticket, worths in making_worths(given)])


def rank_together(given):
    """The rank of the worth lattice; raises OtherDigits."""
    return len(telling_worths(given))


def telling_tickets(given):
    """The tuple of the telling tickets; raises OtherDigits."""
    return tuple([ticket for ticket, worths in telling_worths(given)])


def relations(given):
    """The Hermite basis of all relations; raises OtherDigits."""
    return kernel_of([worths for ticket, worths in telling_worths(given)], len(given))


def is_relation(given, thing):
    """Whether any value is a relation; raises OtherDigits."""
    check_given(given)
    return is_row_of(thing, len(given)) and all([product_of(worths, thing) == 0
                                                 for ticket, worths in telling_worths(given)])


def judge_relations(given):
    """A paper "relations"; raises OtherDigits."""
    return ("relations", relations(given), telling_tickets(given))


def relations_hold(given, thing):
    """Whether any value is a paper "relations"; raises OtherDigits."""
    check_given(given)
    if not isinstance(thing, tuple) or len(thing) != 3 or thing[0] != "relations":
        return False
    if not are_rows(thing[1], len(given)) or thing[1] != relations(given):
        return False
    return are_in_order(given[0].digits, thing[2]) and do_tell_all(given, thing[2])


def do_tell_all(given, tickets):
    """Whether the worth rows of some tickets span those of all: then they leave no other relations."""
    columns = [worths_in_order(tally, tickets) for tally in given]
    rows = [tuple([column[place] for column in columns]) for place in range(len(tickets))]
    return len(span_of(rows)) == rank_together(given)
