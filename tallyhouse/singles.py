"""Whether no ticket has two ways by a rewriter, and the papers that show it.

A triple (s, t, parted) tells of two ways that read the same digits: to s, to t, and whether they are unlike.
"""

from tallyhouse.rewriters import is_state
from tallyhouse.tickets import is_ascending, is_ticket


def is_single(rewriter):
    """Whether no ticket has two ways."""
    return first_doubled(rewriter) is None


def first_doubled(rewriter):
    """The first ticket with two ways, None if there is none."""
    doubled = [ticket for triple, ticket in first_tickets(rewriter).items() if is_doubled(rewriter, triple)]
    return min([(len(ticket), ticket) for ticket in doubled], default=(0, None))[1]


def judge_single(rewriter):
    """A paper "single", or "two" with the first ticket."""
    ticket = first_doubled(rewriter)
    if ticket is not None:
        return ("two", ticket)
    return ("single", tuple(sorted(first_tickets(rewriter))))


def single_holds(rewriter, thing):
    """Whether any value is a paper "single" or "two"."""
    if not isinstance(thing, tuple) or len(thing) != 2:
        return False
    if thing[0] == "two":
        return is_ticket(rewriter.digits, thing[1]) and rewriter.ways(thing[1]) >= 2
    return thing[0] == "single" and are_triples(rewriter, thing[1]) and do_show_single(rewriter, thing[1])


def is_doubled(rewriter, triple):
    """Whether two unlike ways are at an end."""
    return triple[2] and triple[0] in rewriter.ends and triple[1] in rewriter.ends


def moves_by_start(rewriter):
    """For each state and digit that are moved from the moves."""
    moves = {}
    for move in rewriter.moves:
        moves.setdefault((move[0], move[1]), []).append(move)
    return moves


def triples_behind(moves, digit, triple):
    """The triples to which a digit leads two ways on."""
    ones, others = moves.get((triple[0], digit), []), moves.get((triple[1], digit), [])
    return [(one[3], other[3], triple[2] or one != other) for one in ones for other in others]


def first_tickets(rewriter):
    """All triples that two ways come to, each with the first ticket that leads there."""
    moves = moves_by_start(rewriter)
    found = {(0, 0, False): ""}
    last = {(0, 0, False): ""}
    while len(last) > 0:
        fresh = {}
        for triple, ticket in last.items():
            for digit in rewriter.digits:
                longer = ticket + digit
                for further in triples_behind(moves, digit, triple):
                    if further not in found:
                        fresh[further] = min(fresh.get(further, longer), longer)
        for further in fresh:
            found[further] = fresh[further]
        last = fresh
    return found


def are_triples(rewriter, thing):
    """Whether any value is an ascending tuple of triples."""
    return isinstance(thing, tuple) and all([is_triple(rewriter, part) for part in thing]) and is_ascending(thing)


def is_triple(rewriter, thing):
    """Whether any value is two states and a bool."""
    if not isinstance(thing, tuple) or len(thing) != 3:
        return False
    return is_state(thing[0], rewriter.size) and is_state(thing[1], rewriter.size) and isinstance(thing[2], bool)


def do_show_single(rewriter, triples):
    """Whether triples have the first one, and with each those behind it, and no two unlike ways at an end."""
    moves = moves_by_start(rewriter)
    known = {triple: True for triple in triples}
    if (0, 0, False) not in known or any([is_doubled(rewriter, triple) for triple in triples]):
        return False
    return all([further in known for triple in triples for digit in rewriter.digits
                for further in triples_behind(moves, digit, triple)])
