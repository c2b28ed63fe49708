"""Texts read item by item; the first item that cannot stand is told by its index."""

from roomstair.checks import is_within
from roomstair.errors import BadText

# No bound of an integer in a text has more digits: so no longer item need be worked out.
MOST_DIGITS = 4


def items_of(text):
    """The list of the items of a text, empty ones too."""
    if not isinstance(text, str):
        raise BadText(0, 0)
    return text.split(" ")


def integer_in(item):
    """The integer that an item is, if it is written as it must be and not too long, otherwise None."""
    digits = item[1:] if item.startswith("-") else item
    if not is_within(len(digits), 1, MOST_DIGITS):
        return None
    if not all([digit in "0123456789" for digit in digits]):
        return None
    number = int(item)
    if str(number) != item:
        return None
    return number


def numbers_told(numbers):
    """Integers as the items of a text."""
    return " ".join([str(number) for number in numbers])


def told_or_dash(value):
    """A value as an item of an answer, - for None."""
    return "-" if value is None else str(value)


def want_integer(items, at, least, most):
    """The integer from least to most that stands at an index."""
    # The items ahead stand: so at is the number of items if this one is missing.
    if at >= len(items):
        raise BadText(0, at)
    number = integer_in(items[at])
    if not is_within(number, least, most):
        raise BadText(0, at)
    return number


def want_word(items, at, word):
    """See that this very word stands at an index."""
    if at >= len(items) or items[at] != word:
        raise BadText(0, at)


def want_end(items, at):
    """See that no item stands at an index or behind it."""
    if at < len(items):
        raise BadText(0, at)
