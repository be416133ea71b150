"""The first ticket of a roll that has its greatest or its lowest worth.

Let a ticket have the greatest worth, and take the row of one of its beginnings and a highest row that is above it.
Whatever is behind, the highest row is worth no less; with the rest of the ticket behind no row is worth more. So
both are worth the same then: they have the same numbers at all states from which the rest of the ticket leads to an
end. These states are the *shape* of the rest. So of all beginnings only those count that agree with a highest row
at some shape, and of these for each shape and row the first one. (With the lowest worth it is the same.)
"""

from tallyhouse.paths import support, trimmed_row
from tallyhouse.rows import led_on, product_of


def shape_ahead(table, shape):
    """The states from which a digit leads to a shape's."""
    return tuple([state for state, row in enumerate(table) if any([row[goal] > 0 for goal in shape])])


def shapes_for(tally, length):
    """For each place of a ticket of so many digits, and behind it, the shapes of all rests."""
    found = [[tuple(support(tally.ends))]]
    for _ in range(length):
        ahead = {shape_ahead(table, shape): True for shape in found[-1] for table in tally.tables}
        found.append(list(ahead))
    return found[::-1]


def firsts_on(tally, firsts, shape, layer):
    """For one shape, and each row of a layer there, the first ticket that leads to it.

    Told are, for each shape, the first tickets of a digit less.
    """
    tops = {trimmed_row(shape, row): True for row in layer}
    found = {}
    for digit, table in zip(tally.digits, tally.tables):
        for row, ticket in firsts[shape_ahead(table, shape)].items():
            further = trimmed_row(shape, led_on(row, table))
            if further in tops:
                found[further] = min(found.get(further, ticket + digit), ticket + digit)
    return found


def first_with(tally, layers, worth):
    """The first ticket with the greatest or lowest worth; the layers are those of its highest or lowest rows."""
    shapes = shapes_for(tally, len(layers) - 1)
    firsts = {shape: {trimmed_row(shape, tally.start): ""} for shape in shapes[0]}
    for layer, rests in zip(layers[1:], shapes[1:]):
        firsts = {shape: firsts_on(tally, firsts, shape, layer) for shape in rests}
    return min([ticket for shape in shapes[-1] for row, ticket in firsts[shape].items()
                if product_of(row, tally.ends) == worth])
