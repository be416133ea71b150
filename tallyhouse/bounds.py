"""Whether the worths of a tally are finitely many, and the papers that show it."""

from tallyhouse.errors import BadTicket, Unbounded
from tallyhouse.leasts import least, teller_columns
from tallyhouse.loops import FIRST, ROUND, change_of, changing_loop
from tallyhouse.rows import are_rows, led_on, product_of
from tallyhouse.tallies import column_behind
from tallyhouse.tickets import is_ascending, is_ticket
from tallyhouse.walks import rows_met, telling_rows

# With more rows than these a loop is looked for first: there are none as many where the document promises something.
MANY_ROWS = 300


def worths_round(tally, ahead, loop, behind, many):
    """The worths of ahead, of 0, 1, .. loops, so many in all, and of behind; raises BadTicket."""
    check_round(tally.digits, ahead, loop, behind)
    table = tally.table(loop)
    column = column_behind(tally, behind)
    row = tally.row(ahead)
    found = []
    for _ in range(many):
        found.append(product_of(row, column))
        row = led_on(row, table)
    return tuple(found)


def check_round(digits, ahead, loop, behind):
    """Raises BadTicket with the first of three values that is no ticket; an empty loop is none, either."""
    if not is_ticket(digits, ahead):
        raise BadTicket(ahead)
    if not is_ticket(digits, loop) or loop == "":
        raise BadTicket(loop)
    if not is_ticket(digits, behind):
        raise BadTicket(behind)


def do_come_round(tally, ahead, loop, behind):
    """Whether the worths round come round; raises BadTicket."""
    found = worths_round(tally, ahead, loop, behind, 2 * FIRST + ROUND)
    return found[FIRST:2 * FIRST] == found[FIRST + ROUND:]


def bounded_rows(tally):
    """The rows met of a least tally, by their first tickets in order; None if they are not finitely many."""
    found = rows_met(tally, MANY_ROWS)
    if found is None and changing_loop(tally) is None:
        found = rows_met(tally, None)
    return found


def ever_paper(tally):
    """A paper "ever" of a least tally that is not bounded."""
    loop = changing_loop(tally)
    change = change_of(tally.table(loop))
    # The rows of the tickets ahead, and the columns of those behind, span all: so some pair sees the change.
    found = [("ever", ahead, loop, behind) for ahead, row in telling_rows(tally)
             for behind, column in teller_columns(tally) if product_of(led_on(row, change), column) != 0]
    return found[0]


def judge_bounds(tally):
    """A paper "bounded" or "ever"."""
    told = least(tally)
    rows = bounded_rows(told)
    if rows is None:
        return ever_paper(told)
    return ("bounded", tuple(sorted(rows)))


def is_bounded(tally):
    """Whether the worths are finitely many numbers."""
    return bounded_rows(least(tally)) is not None


def met_rows(tally):
    """The least tally, and its rows met, by their first tickets in order; raises Unbounded with a paper "ever"."""
    told = least(tally)
    rows = bounded_rows(told)
    if rows is None:
        raise Unbounded(ever_paper(told))
    return told, rows


def worths_of(tally):
    """The ascending tuple of all worths; raises Unbounded with a paper "ever"."""
    told, rows = met_rows(tally)
    return tuple(sorted(set([product_of(row, told.ends) for row in rows])))


def bounds_hold(tally, thing):
    """Whether any value is a paper "bounded" or "ever"."""
    if not isinstance(thing, tuple) or len(thing) == 0:
        return False
    if thing[0] == "bounded":
        return len(thing) == 2 and do_bound(least(tally), thing[1])
    if thing[0] != "ever" or len(thing) != 4 or not all([is_ticket(tally.digits, part) for part in thing[1:]]):
        return False
    word, ahead, loop, behind = thing
    return loop != "" and not do_come_round(tally, ahead, loop, behind)


def do_bound(tally, thing):
    """Whether any value is an ascending tuple of rows with a least tally's start and all that they are led on to."""
    if not are_rows(thing, len(tally)) or not is_ascending(thing):
        return False
    known = {row: True for row in thing}
    return tally.start in known and all([led_on(row, table) in known for row in thing for table in tally.tables])
