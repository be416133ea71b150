"""The papers that show how a count grows: that it doubles, or by which power."""

from tallyhouse.doubling import does_double, doubling_paper
from tallyhouse.paths import states_led_to, states_leading_to, states_round, support, tickets_from
from tallyhouse.powers import degree, least_levels, rises, steps_of
from tallyhouse.rewriters import is_state
from tallyhouse.rows import is_row_of, led_on, unit_row
from tallyhouse.tickets import is_ticket
from tallyhouse.useful import useful_states


def judge_growth(tally):
    """A paper "doubles" or "power"."""
    paper = doubling_paper(tally)
    if paper is not None:
        return paper
    rising = rises(tally)
    levels = least_levels(tally, rising)
    chain, behind = chain_of(tally, rising, levels)
    return ("power", levels, chain, behind)


def chain_of(tally, rising, levels):
    """The pieces of a chain of rises, one for each level, and the ticket behind them."""
    steps = rise_chain(tally, rising, {state: level for state, level in levels})
    if len(steps) == 0:
        return (), ""
    pieces = []
    states = support(tally.start)
    for p, q in steps:
        pieces.append((tickets_from(tally, states)[p], p, rise_loop(tally, p, q), q))
        states = [q]
    behind = tickets_from(tally, states)
    ends = [behind[state] for state in support(tally.ends) if state in behind]
    return tuple(pieces), ends[0]


def rise_chain(tally, rising, levels):
    """Rises, one for each level, of which each one's second state leads to the first one of the next."""
    most = max(levels.values(), default=0)
    found = []
    goals = list(levels)
    for level in reversed(range(most)):
        # From the greatest level down: a state of a least level has a rise to it that leads there.
        found.append([(p, q) for p, q in rising if levels[p] == level and levels[q] == level + 1
                      and any([goal in tickets_from(tally, [q]) for goal in goals])][0])
        goals = [found[-1][0]]
    return found[::-1]


def rise_loop(tally, p, q):
    """A ticket that leads from p to p, from p to q and from q to q, (p, q) being a rise."""
    # On the way the first one stays where it can come back to p, the third one where it can come back to q.
    rooms = (states_round(tally, p), states_between(tally, p, q), states_round(tally, q))
    found = {(p, p, q): ""}
    waiting = [(p, p, q)]
    place = 0
    while (p, q, q) not in found:
        triple = waiting[place]
        place += 1
        for digit, table in zip(tally.digits, tally.tables):
            for further in triples_within(table, rooms, triple):
                if further not in found:
                    found[further] = found[triple] + digit
                    waiting.append(further)
    return found[(p, q, q)]


def states_between(tally, p, q):
    """The states to which tickets lead from p, and from which they lead to q."""
    led = tickets_from(tally, [p])
    return [state for state in states_leading_to(tally, [q]) if state in led]


def triples_within(table, rooms, triple):
    """The triples to which a digit's table leads three states, each within its room."""
    ones, others, thirds = [[goal for goal in room if table[state][goal] > 0] for state, room in zip(triple, rooms)]
    return [(one, other, third) for one in ones for other in others for third in thirds]


def growth_holds(tally, thing):
    """Whether any value is a paper "doubles" or "power"."""
    if not isinstance(thing, tuple) or len(thing) == 0:
        return False
    if thing[0] == "doubles":
        return len(thing) == 5 and do_parts_double(tally, thing[1:])
    return thing[0] == "power" and len(thing) == 4 and do_parts_rise(tally, thing[1:])


def do_parts_double(tally, parts):
    """Whether the parts of a paper "doubles" are as told."""
    ahead, state, loop, behind = parts
    if not all([is_ticket(tally.digits, ticket) for ticket in (ahead, loop, behind)]):
        return False
    if not is_state(state, len(tally)) or loop == "":
        return False
    if not does_lead(tally, support(tally.start), ahead, [state]):
        return False
    return do_ways_part(tally, loop, state) and does_lead(tally, [state], behind, support(tally.ends))


def does_lead(tally, states, ticket, goals):
    """Whether a ticket leads from some of the states to some of the goals."""
    return any([goal in goals for goal in states_led_to(tally, states, ticket)])


def do_ways_part(tally, loop, state):
    """Whether by a ticket there are two ways or more from a state to itself."""
    row = unit_row(len(tally), state)
    for digit in loop:
        # Two stand for all that is more: so the numbers stay small however long the ticket is.
        row = tuple([min(number, 2) for number in led_on(row, tally.tables[tally.digits.index(digit)])])
    return row[state] >= 2


def do_parts_rise(tally, parts):
    """Whether the parts of a paper "power" are as told."""
    pairs, chain, behind = parts
    if not are_levels(tally, pairs) or not isinstance(chain, tuple) or not is_ticket(tally.digits, behind):
        return False
    levels = {state: level for state, level in pairs}
    if len(chain) != max(levels.values(), default=0) or does_double(tally) or not do_levels_rise(tally, levels):
        return False
    if len(chain) == 0:
        return behind == ""
    states = support(tally.start)
    for piece in chain:
        if not is_piece(tally, piece, states):
            return False
        states = [piece[3]]
    return does_lead(tally, states, behind, support(tally.ends))


def are_levels(tally, thing):
    """Whether any value is a tuple of pairs of a state and an integer from 0 on, the states being the useful ones."""
    if not isinstance(thing, tuple) or not all([is_row_of(part, 2) and part[1] >= 0 for part in thing]):
        return False
    return tuple([part[0] for part in thing]) == useful_states(tally)


def do_levels_rise(tally, levels):
    """Whether levels fall by no digit, and go up by each rise."""
    if any([levels[p] > levels[q] for p, q in steps_of(tally, useful_states(tally))]):
        return False
    return all([levels[p] < levels[q] for p, q in rises(tally)])


def is_piece(tally, thing, states):
    """Whether any value is a piece of a chain whose first ticket leads from one of the states."""
    if not isinstance(thing, tuple) or len(thing) != 4:
        return False
    ahead, p, loop, q = thing
    if not is_ticket(tally.digits, ahead) or not is_ticket(tally.digits, loop) or loop == "":
        return False
    useful = useful_states(tally)
    if not is_row_of((p, q), 2) or p == q or p not in useful or q not in useful:
        return False
    if not does_lead(tally, states, ahead, [p]) or not does_lead(tally, [p], loop, [p]):
        return False
    return does_lead(tally, [p], loop, [q]) and does_lead(tally, [q], loop, [q])


def grows_more(one, other):
    """Whether the first one doubles and the second one does not, or neither does and the first degree is greater."""
    first, second = degree(one), degree(other)
    if first is None or second is None:
        return first is None and second is not None
    return first > second
