"""Lines of texts: words with single blanks between them, integers as Python writes them."""

from tallyhouse.errors import BadText
from tallyhouse.tickets import are_digits

# Python refuses to write or read integers of more than some thousand digits at once: they go in parts.
PART_DIGITS = 60
PART = 10 ** 60


def number_text(number):
    """An integer of any size, as Python writes it."""
    if number < 0:
        return "-" + number_text(-number)
    parts = []
    while number >= PART:
        parts.append(str(number % PART).zfill(PART_DIGITS))
        number = number // PART
    return str(number) + "".join(parts[::-1])


def is_number_text(word):
    """Whether a word is an integer as Python writes it."""
    if word == "0":
        return True
    figures = word.removeprefix("-")
    return len(figures) > 0 and figures[0] != "0" and all([sign in "0123456789" for sign in figures])


def number_in(word):
    """The integer that a word writes."""
    figures = word.removeprefix("-")
    head = len(figures) % PART_DIGITS
    number = int("0" + figures[:head])
    for place in range(head, len(figures), PART_DIGITS):
        number = number * PART + int(figures[place:place + PART_DIGITS])
    return -number if word.startswith("-") else number


def row_text(row):
    """The line of some integers."""
    return " ".join([number_text(number) for number in row])


def worded_text(word, row):
    """The line of a word with some integers behind it."""
    return " ".join([word] + [number_text(number) for number in row])


def lines_of(text):
    """The lines of a text; raises BadText(-1) if it is no string."""
    if not isinstance(text, str):
        raise BadText(-1)
    return text.split("\n")


def words_at(lines, number):
    """The words of a line; raises BadText if it is missing, all lines ahead of it being right."""
    if number >= len(lines):
        raise BadText(len(lines))
    return lines[number].split(" ")


def numbers_of(words, number):
    """The row that the words of a line write."""
    if not all([is_number_text(word) for word in words]):
        raise BadText(number)
    return tuple([number_in(word) for word in words])


def worded_row_at(lines, number, word):
    """The row behind the word with which a line begins."""
    words = words_at(lines, number)
    if words[0] != word:
        raise BadText(number)
    return numbers_of(words[1:], number)


def digits_at(lines, number, word):
    """The digits of a line of a word and digits."""
    words = words_at(lines, number)
    if len(words) != 2 or words[0] != word or not are_digits(words[1]):
        raise BadText(number)
    return words[1]


def end_at(lines, number):
    """Raises BadText if the text goes on where it must end."""
    if len(lines) > number:
        raise BadText(number)
