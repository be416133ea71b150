"""The sold stretches of one roll, each with the tariff by which it was sold.

They are a tuple of triples (low, high, tariff), in order, none of two side by side having equal tariffs. Tickets of one
roll are in order as strings are.
"""

from tallyhouse.ranges import range_sum, ticket_ahead, ticket_behind


def shared(stretch, low, high):
    """The first and the last ticket that a sold stretch has of the tickets from low to high; none if low is greater."""
    return max(stretch[0], low), min(stretch[1], high)


def first_sold(sold, low, high):
    """The first ticket from low to high that is sold, None if there is none."""
    for stretch in sold:
        first, last = shared(stretch, low, high)
        if first <= last:
            return first
    return None


def first_unsold(digits, sold, low, high):
    """The first ticket from low to high that is not sold, None if there is none."""
    ticket = low
    for stretch in sold:
        if ticket is not None and stretch[0] <= ticket <= stretch[1]:
            ticket = ticket_behind(digits, stretch[1])
    return ticket if ticket is not None and ticket <= high else None


def paid_within(sold, low, high):
    """What was paid for those tickets from low to high that are sold."""
    return sum([worth_shared(stretch, low, high, stretch[2]) for stretch in sold])


def worth_within(sold, low, high, tariff):
    """What those tickets from low to high that are sold are worth by one tariff."""
    return sum([worth_shared(stretch, low, high, tariff) for stretch in sold])


def worth_shared(stretch, low, high, tariff):
    """What the tickets that a sold stretch has of those from low to high are worth by a tariff."""
    first, last = shared(stretch, low, high)
    return range_sum(tariff, first, last)


def with_stretch(digits, sold, low, high, tariff):
    """What is sold with a stretch, none of whose tickets were sold, as well."""
    ahead = tuple([stretch for stretch in sold if stretch[1] < low])
    behind = tuple([stretch for stretch in sold if stretch[0] > high])
    joined = ()
    for stretch in ahead + ((low, high, tariff),) + behind:
        if len(joined) > 0 and are_beside(digits, joined[-1], stretch) and joined[-1][2] == stretch[2]:
            stretch = (joined[-1][0], stretch[1], stretch[2])
            joined = joined[:-1]
        joined = joined + (stretch,)
    return joined


def without_stretch(digits, sold, low, high):
    """What is sold without the tickets from low to high."""
    left = []
    for first, last, tariff in sold:
        if first < low:
            left.append((first, min(last, ticket_ahead(digits, low)), tariff))
        if last > high:
            left.append((max(first, ticket_behind(digits, high)), last, tariff))
    return tuple(left)


def are_beside(digits, one, other):
    """Whether a stretch begins directly behind another one."""
    return ticket_behind(digits, one[1]) == other[0]


def plain_stretches(digits, sold):
    """The fewest pairs (low, high) that have just the sold tickets."""
    pairs = []
    for stretch in sold:
        if len(pairs) > 0 and are_beside(digits, pairs[-1], stretch):
            pairs[-1] = (pairs[-1][0], stretch[1])
        else:
            pairs.append((stretch[0], stretch[1]))
    return tuple(pairs)


def place_in_roll(digits, ticket):
    """How many tickets of its roll are ahead of a ticket."""
    place = 0
    for digit in ticket:
        place = place * len(digits) + digits.index(digit)
    return place


def many_sold_in(digits, sold):
    """How many tickets are sold."""
    return sum([place_in_roll(digits, last) - place_in_roll(digits, first) + 1 for first, last, tariff in sold])
