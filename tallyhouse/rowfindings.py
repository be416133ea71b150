"""Findings of parts 1 to 4: worths, the same and least tallies, sums, rewriters, takings, relations."""

from tallyhouse.kinds import count_of, given_of, rewriter_of, sort_of, tally_of
from tallyhouse.leasts import least, rank
from tallyhouse.madeof import by_fractions_hold, made_of_holds
from tallyhouse.ranges import range_sum
from tallyhouse.relations import relations_hold
from tallyhouse.rewriters import through
from tallyhouse.rows import is_whole
from tallyhouse.sames import are_same, same_holds
from tallyhouse.singles import single_holds
from tallyhouse.takings import takings_hold
from tallyhouse.tickets import is_stretch, is_ticket


def is_worth(thing):
    """Whether ("worth", T, ticket, number) holds."""
    word, text, ticket, number = thing
    tally = tally_of(text)
    if tally is None or not is_ticket(tally.digits, ticket) or not is_whole(number):
        return False
    return tally.worth(ticket) == number


def is_same(thing):
    """Whether ("same", T, U, paper) holds."""
    word, text, other, paper = thing
    pair = given_of((text, other))
    return pair is not None and same_holds(pair[0], pair[1], paper)


def is_rank(thing):
    """Whether ("rank", T, number) holds."""
    word, text, number = thing
    tally = tally_of(text)
    return tally is not None and is_whole(number) and rank(tally) == number


def is_least_text(thing):
    """Whether ("least", T, U) holds."""
    word, text, other = thing
    tally = tally_of(text)
    return tally is not None and str(least(tally)) == other


def is_sum(thing):
    """Whether ("sum", T, low, high, number) holds."""
    word, text, low, high, number = thing
    tally = tally_of(text)
    if tally is None or not is_stretch(tally.digits, low, high) or not is_whole(number):
        return False
    return range_sum(tally, low, high) == number


def is_through(thing):
    """Whether ("through", T, R, U) holds."""
    word, text, script, other = thing
    tally, rewriter, further = tally_of(text), rewriter_of(script), tally_of(other)
    if tally is None or rewriter is None or further is None:
        return False
    if rewriter.written != tally.digits or rewriter.digits != further.digits:
        return False
    return are_same(through(tally, rewriter), further)


def is_single_paper(thing):
    """Whether ("single", R, paper) holds."""
    word, script, paper = thing
    rewriter = rewriter_of(script)
    return rewriter is not None and single_holds(rewriter, paper)


def are_takings(thing):
    """Whether ("takings", T, ticket, amount, paper) holds."""
    word, text, ticket, amount, paper = thing
    tally = count_of(text)
    if tally is None or not is_ticket(tally.digits, ticket) or not is_whole(amount) or amount < 1:
        return False
    return takings_hold(tally, ticket, amount, paper)


def are_relations(thing):
    """Whether ("relations", G, rows, tickets) holds."""
    word, texts, rows, tickets = thing
    given = given_of(texts)
    return given is not None and relations_hold(given, ("relations", rows, tickets))


def goal_and_given(text, texts):
    """A goal and given tallies of any two values that are texts of them, with the same digits, otherwise None."""
    goal, given = tally_of(text), given_of(texts)
    if goal is None or given is None or goal.digits != given[0].digits:
        return None
    return goal, given


def is_made(thing):
    """Whether ("made of", T, G, paper) holds."""
    word, text, texts, paper = thing
    pair = goal_and_given(text, texts)
    return pair is not None and made_of_holds(pair[0], pair[1], paper)


def is_made_in_parts(thing):
    """Whether ("by fractions", T, G, paper) holds."""
    word, text, texts, paper = thing
    pair = goal_and_given(text, texts)
    return pair is not None and by_fractions_hold(pair[0], pair[1], paper)


# By the word of a finding and how many parts it has, the word counted.
JUDGES = {
    ("worth", 4): is_worth, ("same", 4): is_same, ("rank", 3): is_rank, ("least", 3): is_least_text,
    ("sum", 5): is_sum, ("through", 4): is_through, ("single", 3): is_single_paper, ("takings", 5): are_takings,
    ("relations", 4): are_relations, ("made of", 4): is_made, ("by fractions", 4): is_made_in_parts,
}


def row_finding_holds(thing):
    """Whether any value is a finding of parts 1 to 4 that holds."""
    sort = sort_of(thing)
    if sort not in JUDGES:
        return False
    judge = JUDGES[sort]
    return judge(thing)
