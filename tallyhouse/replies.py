"""What a console answers to commands that change nothing.

Each of these is passed the house, the told sums of each tariff, and the parts of the command.
"""

from tallyhouse.asked import to_ask
from tallyhouse.bounds import is_bounded
from tallyhouse.caps import least_cap
from tallyhouse.commands import promise_words, text_words, ticket_word
from tallyhouse.leasts import least, rank
from tallyhouse.madeof import is_made_of
from tallyhouse.powers import degree
from tallyhouse.prices import Book, can_be, suspects
from tallyhouse.prizes import greatest_ticket, lowest_ticket
from tallyhouse.ranges import range_sum, roll_sum
from tallyhouse.sames import first_apart
from tallyhouse.takings import takings
from tallyhouse.texts import number_text
from tallyhouse.told import first_open, rest_and_step


def yes_or_no(told):
    """The answer to a question."""
    return "yes" if told else "no"


def listed(words, between):
    """The answer of several words, "none" if there are none."""
    return between.join(words) if len(words) > 0 else "none"


def numbers_text(numbers):
    """The answer of several integers."""
    return " ".join([number_text(number) for number in numbers])


def names_reply(house, told, parts):
    """The names of the tariffs."""
    return listed(house.names(), " ")


def tariff_reply(house, told, parts):
    """The text of a tariff."""
    return text_words(house.tariff_now(parts[0]))


def promises_reply(house, told, parts):
    """The promises of a tariff."""
    return listed([promise_words(promise) for promise in house.promises(parts[0])], ";")


def worth_reply(house, told, parts):
    """The worth of a ticket."""
    name, ticket = parts
    return number_text(house.tariff_now(name).worth(ticket))


def sum_reply(house, told, parts):
    """The sum of a range."""
    name, low, high = parts
    return number_text(range_sum(house.tariff_now(name), low, high))


def roll_reply(house, told, parts):
    """The sum of a roll."""
    name, length = parts
    return number_text(roll_sum(house.tariff_now(name), length))


def takings_reply(house, told, parts):
    """The ticket with which the takings reach an amount."""
    name, ticket, amount = parts
    tally = house.tariff_now(name)
    if not tally.is_count:
        return "uncounted"
    found = takings(tally, ticket, amount)
    if found[0] == "at":
        return "at " + ticket_word(found[1]) + " " + number_text(found[2])
    return "never " + number_text(found[1])


def same_reply(house, told, parts):
    """Whether two tariffs are the same."""
    one, other = house.tariff_now(parts[0]), house.tariff_now(parts[1])
    if one.digits != other.digits:
        return "unlike"
    ticket = first_apart(one, other)
    return "same" if ticket is None else "apart " + ticket_word(ticket)


def rank_reply(house, told, parts):
    """The rank of a tariff."""
    return number_text(rank(house.tariff_now(parts[0])))


def least_reply(house, told, parts):
    """The least tally of a tariff."""
    return text_words(least(house.tariff_now(parts[0])))


def made_reply(house, told, parts):
    """Whether a tariff is made of others."""
    goal = house.tariff_now(parts[0])
    given = tuple([house.tariff_now(name) for name in parts[1]])
    if any([tally.digits != goal.digits for tally in given]):
        return "unlike"
    return yes_or_no(is_made_of(goal, given))


def growth_reply(house, told, parts):
    """How a tariff grows."""
    tally = house.tariff_now(parts[0])
    if not tally.is_count:
        return "uncounted"
    power = degree(tally)
    return "doubles" if power is None else "power " + number_text(power)


def cap_reply(house, told, parts):
    """The least cap of a tariff."""
    tally = house.tariff_now(parts[0])
    if not tally.is_count:
        return "uncounted"
    cap = least_cap(tally)
    return "none" if cap is None else number_text(cap)


def greatest_reply(house, told, parts):
    """The greatest worth of a roll, and its first ticket."""
    name, length = parts
    tally = house.tariff_now(name)
    return prize_text(tally, greatest_ticket(tally, length)) if tally.is_count else "uncounted"


def lowest_reply(house, told, parts):
    """The lowest worth of a roll, and its first ticket."""
    name, length = parts
    tally = house.tariff_now(name)
    return prize_text(tally, lowest_ticket(tally, length)) if tally.is_count else "uncounted"


def prize_text(tally, ticket):
    """The worth of a ticket, and the ticket."""
    return number_text(tally.worth(ticket)) + " " + ticket_word(ticket)


def bounded_reply(house, told, parts):
    """Whether a tariff is bounded."""
    return yes_or_no(is_bounded(house.tariff_now(parts[0])))


def book_in(house, told, name):
    """The book of the told sums of a tariff."""
    return Book(house.tariff_now(name), told[name])


def can_reply(house, told, parts):
    """Whether the book of a tariff can be."""
    return yes_or_no(can_be(book_in(house, told, parts[0])))


def suspects_reply(house, told, parts):
    """The suspects of the book of a tariff."""
    return listed([number_text(number) for number in suspects(book_in(house, told, parts[0]))], " ")


def worths_reply(house, told, parts):
    """What a ticket can be worth."""
    book = book_in(house, told, parts[0])
    return numbers_text(rest_and_step(book, parts[1])) if can_be(book) else "cannot"


def open_reply(house, told, parts):
    """The first ticket that is not told."""
    ticket = first_open(book_in(house, told, parts[0]))
    return "none" if ticket is None else ticket_word(ticket)


def ask_reply(house, told, parts):
    """The first cheapest lot."""
    return listed([ticket_word(ticket) for ticket in to_ask(book_in(house, told, parts[0]))], " ")


REPLIES = {
    "names": names_reply, "tariff": tariff_reply, "promises": promises_reply, "worth": worth_reply, "sum": sum_reply,
    "roll": roll_reply, "takings": takings_reply, "same": same_reply, "rank": rank_reply, "least": least_reply,
    "made": made_reply, "growth": growth_reply, "cap": cap_reply, "greatest": greatest_reply, "lowest": lowest_reply,
    "bounded": bounded_reply, "can": can_reply, "suspects": suspects_reply, "worths": worths_reply, "open": open_reply,
    "ask": ask_reply,
}


def reply_to(word, house, told, parts):
    """The answer to a command that changes nothing."""
    reply = REPLIES[word]
    return reply(house, told, parts)
