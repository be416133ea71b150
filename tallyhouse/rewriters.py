"""Rewriters: which tickets are written for a ticket that is read, and in how many ways."""

from tallyhouse.errors import BadRewriter, BadText, BadTicket, OtherDigits
from tallyhouse.rows import is_whole
from tallyhouse.tables import table_sum
from tallyhouse.tallies import Tally
from tallyhouse.texts import digits_at, is_number_text, lines_of, number_in, words_at, worded_row_at, worded_text
from tallyhouse.tickets import are_digits, is_ascending, is_digit, is_ticket


class Rewriter:
    """A machine that reads tickets and writes tickets, one digit for each digit, perhaps in several ways."""

    def __init__(self, digits, written, size, moves, ends):
        if not are_digits(digits):
            raise BadRewriter("digits")
        if not are_digits(written):
            raise BadRewriter("written")
        if not is_whole(size) or size < 1:
            raise BadRewriter("size")
        if not are_moves(moves, digits, written, size):
            raise BadRewriter("moves")
        if not are_ends(ends, size):
            raise BadRewriter("ends")
        self.digits = digits
        self.written = written
        self.size = size
        self.moves = moves
        self.ends = ends

    def __eq__(self, other):
        return (isinstance(other, Rewriter) and self.digits == other.digits and self.written == other.written
                and self.size == other.size and self.moves == other.moves and self.ends == other.ends)

    def __str__(self):
        return "\n".join(rewriter_lines(self.digits, self.written, self.size, self.moves, self.ends))

    @classmethod
    def read(cls, text):
        """The rewriter of a text; raises BadText with the first line that is not right."""
        lines = lines_of(text)
        size = size_at(lines, 0)
        digits = digits_at(lines, 1, "reads")
        written = digits_at(lines, 2, "writes")
        ends = worded_row_at(lines, 3, "ends")
        if not are_ends(ends, size):
            raise BadText(3)
        moves = []
        for number in range(4, len(lines)):
            move = move_at(lines, number)
            if not is_move(move, digits, written, size) or not is_ascending(moves[-1:] + [move]):
                raise BadText(number)
            moves.append(move)
        return cls(digits, written, size, tuple(moves), ends)

    def ways(self, ticket):
        """How many ways a ticket has."""
        check_read(self, ticket)
        goals = goals_by_start(self.moves)
        many = {0: 1}
        for digit in ticket:
            further = {}
            for state in many:
                for _, goal in goals.get((state, digit), ()):
                    further[goal] = further.get(goal, 0) + many[state]
            many = further
        return sum([many.get(state, 0) for state in self.ends])

    def rewritings(self, ticket):
        """The ascending tuple of pairs of a ticket that is written and of how many ways write it."""
        check_read(self, ticket)
        goals = goals_by_start(self.moves)
        alive = alive_states(self, ticket)
        # Pairs of what is written so far and how many ways lead to each state by it: in order all the way.
        found = [("", ((0, 1),))] if 0 in alive[0] else []
        for place, digit in enumerate(ticket):
            # Unlike heads often have the same ways: these are led on once.
            led = {many: True for head, many in found}
            led = {many: written_on(goals, alive[place + 1], digit, many) for many in led}
            found = [(head + other, further) for head, many in found for other, further in led[many]]
        return tuple([(head, sum([count for state, count in many])) for head, many in found])


def are_moves(thing, digits, written, size):
    """Whether any value is an ascending tuple of moves."""
    if not isinstance(thing, tuple):
        return False
    return all([is_move(part, digits, written, size) for part in thing]) and is_ascending(thing)


def is_move(thing, digits, written, size):
    """Whether any value is a move: a state, a digit that is read, one that is written, a state."""
    if not isinstance(thing, tuple) or len(thing) != 4:
        return False
    state, digit, other, goal = thing
    return is_state(state, size) and is_digit(digits, digit) and is_digit(written, other) and is_state(goal, size)


def is_state(thing, size):
    """Whether any value is a state."""
    return is_whole(thing) and 0 <= thing < size


def are_ends(thing, size):
    """Whether any value is an ascending tuple of states."""
    return isinstance(thing, tuple) and all([is_state(part, size) for part in thing]) and is_ascending(thing)


def rewriter_lines(digits, written, size, moves, ends):
    """The lines of a rewriter's text."""
    head = [worded_text("rewriter", (size,)), "reads " + digits, "writes " + written, worded_text("ends", ends)]
    return head + [move_text(move) for move in moves]


def move_text(move):
    """The line of a move."""
    state, digit, other, goal = move
    return worded_text("move", (state,)) + " " + worded_text(digit + " " + other, (goal,))


def size_at(lines, number):
    """The size of the line of a rewriter."""
    row = worded_row_at(lines, number, "rewriter")
    if len(row) != 1 or row[0] < 1:
        raise BadText(number)
    return row[0]


def move_at(lines, number):
    """The four parts of the line of a move; its digits are not yet looked at."""
    words = words_at(lines, number)
    if len(words) != 5 or words[0] != "move" or not is_number_text(words[1]) or not is_number_text(words[4]):
        raise BadText(number)
    return (number_in(words[1]), words[2], words[3], number_in(words[4]))


def check_read(rewriter, thing):
    """Raises BadTicket for any value that is no ticket over the digits that a rewriter reads."""
    if not is_ticket(rewriter.digits, thing):
        raise BadTicket(thing)


def goals_by_start(moves):
    """For each state and digit that are moved from the pairs of the digit written and the state moved to."""
    goals = {}
    for state, digit, other, goal in moves:
        goals[(state, digit)] = goals.get((state, digit), []) + [(other, goal)]
    return goals


def alive_states(rewriter, ticket):
    """For each place of a ticket, and behind it, the states from which the digits to come lead to an end."""
    alive = [{state: True for state in rewriter.ends}]
    for digit in ticket[::-1]:
        alive.append({move[0]: True for move in rewriter.moves if move[1] == digit and move[3] in alive[-1]})
    return alive[::-1]


def written_on(goals, alive, digit, many):
    """For each digit that can be written now, in order, the pair of it and how many ways lead to each state by it."""
    found = {}
    for state, count in many:
        for other, goal in goals.get((state, digit), ()):
            if goal in alive:
                further = found.setdefault(other, {})
                further[goal] = further.get(goal, 0) + count
    return [(other, tuple(sorted(found[other].items()))) for other in sorted(found)]


def kept(digits):
    """The rewriter by which each ticket has one way, which writes it itself."""
    return Rewriter(digits, digits, 1, tuple([(0, digit, digit, 0) for digit in digits]), (0,))


def up_to(digits):
    """A rewriter by which each ticket has one way for each ticket of its roll up to it, which writes this."""
    # The state 0 has written what was read, the state 1 something less.
    even = [(0, digit, digit, 0) for digit in digits]
    down = [(0, digit, other, 1) for digit in digits for other in digits if other < digit]
    free = [(1, digit, other, 1) for digit in digits for other in digits]
    return Rewriter(digits, digits, 2, tuple(sorted(even + down + free)), (0, 1))


def one_ahead(digits):
    """A rewriter by which each ticket has one way, which writes the one directly ahead, the first of a roll none."""
    # The last digit that is not the first one goes one down, and all first ones behind it become last ones.
    even = [(0, digit, digit, 0) for digit in digits]
    down = [(0, digit, other, 1) for digit, other in zip(digits[1:], digits)]
    return Rewriter(digits, digits, 2, tuple(sorted(even + down + [(1, digits[0], digits[-1], 1)])), (1,))


def exchanged(rewriter):
    """The rewriter that reads what this one writes, and writes what it reads."""
    moves = [(state, other, digit, goal) for state, digit, other, goal in rewriter.moves]
    return Rewriter(rewriter.written, rewriter.digits, rewriter.size, tuple(sorted(moves)), rewriter.ends)


def joined(one, other):
    """A joined rewriter of a first one and a second one; raises OtherDigits."""
    if one.written != other.digits:
        raise OtherDigits()
    first, second = goals_by_start(one.moves), goals_by_start(other.moves)
    # A state is a state of each, and a number that keeps moves apart that differ in the digit between alone.
    numbers = {(0, 0, 0): 0}
    waiting = [(0, 0, 0)]
    moves = []
    place = 0
    while place < len(waiting):
        pair = waiting[place]
        for digit, written, goal in paired_moves(one.digits, first, second, pair):
            if goal not in numbers:
                numbers[goal] = len(waiting)
                waiting.append(goal)
            moves.append((place, digit, written, numbers[goal]))
        place += 1
    ends = [numbers[state] for state in waiting if state[0] in one.ends and state[1] in other.ends]
    return Rewriter(one.digits, other.written, len(waiting), tuple(sorted(moves)), tuple(ends))


def paired_moves(digits, first, second, pair):
    """The moves of two rewriters, one behind the other, from a state of each: what is read, written, and moved to."""
    found = []
    many = {}
    for digit in digits:
        for between, goal in first.get((pair[0], digit), ()):
            for written, further in second.get((pair[1], between), ()):
                alike = (digit, written, goal, further)
                many[alike] = many.get(alike, 0) + 1
                found.append((digit, written, (goal, further, many[alike] - 1)))
    return found


def through(tally, rewriter):
    """A tally of the tally through the rewriter; raises OtherDigits."""
    if rewriter.written != tally.digits:
        raise OtherDigits()
    size, many = len(tally), rewriter.size
    start = tally.start + (0,) * (size * (many - 1))
    ends = []
    for state in range(many):
        ends.extend(tally.ends if state in rewriter.ends else (0,) * size)
    tables = tuple([through_table(tally, rewriter, digit) for digit in rewriter.digits])
    return Tally(rewriter.digits, start, tables, tuple(ends))


def through_table(tally, rewriter, digit):
    """The table by which a digit that is read leads on: from each state a part of the row for each state."""
    others = {}
    for state, read, other, goal in rewriter.moves:
        if read == digit:
            others.setdefault((state, goal), []).append(tally.tables[tally.digits.index(other)])
    rows = []
    for state in range(rewriter.size):
        parts = [table_sum(others.get((state, goal), ()), len(tally)) for goal in range(rewriter.size)]
        rows.extend([tuple([number for part in parts for number in part[place]]) for place in range(len(tally))])
    return tuple(rows)
