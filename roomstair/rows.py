"""Rows of signs: `+` for the left side, `-` for the right one, `0` for neither."""

from roomstair.checks import are_unlike, is_within
from roomstair.errors import BadNumber, BadRow, Misfit

MOST_PLACES = 12
# The most places of which all rows are listed, as by a Table.
MOST_LISTED = 6
# Ascending, as Python compares the signs.
SIGNS = ("+", "-", "0")
OPPOSITES = {"+": "-", "-": "+", "0": "0"}


def is_row(value):
    """Whether any value is a row."""
    if not isinstance(value, str) or len(value) > MOST_PLACES:
        return False
    if not all([sign in SIGNS for sign in value]):
        return False
    return "+" in value or "-" in value


def want_row(value, part):
    """Raise BadRow(part) for what is no row."""
    if not is_row(value):
        raise BadRow(part)


def opposite(row):
    """The row with + and - exchanged."""
    want_row(row, "row")
    return "".join([OPPOSITES[sign] for sign in row])


def size_of(row):
    """How many signs of a row are not 0."""
    want_row(row, "row")
    return len(row) - row.count("0")


def first_sign(row):
    """The sign at the least place that has not the sign 0."""
    want_row(row, "row")
    return row.lstrip("0")[0]


def waves(row):
    """How many stretches of like signs a row has, all 0 left out."""
    want_row(row, "row")
    signs = row.replace("0", "")
    return 1 + len([at for at in range(1, len(signs)) if signs[at] != signs[at - 1]])


def places_with(row, sign):
    """The places of a row that have the sign, ascending."""
    return tuple([place for place in range(len(row)) if row[place] == sign])


def sides_of(row):
    """The pair of the left and the right side of a row."""
    want_row(row, "row")
    return places_with(row, "+"), places_with(row, "-")


def lies_below(one, other):
    """Whether a row is below another one; not, if they have unlike many places."""
    if len(one) != len(other) or one == other:
        return False
    return all([one[place] in ("0", other[place]) for place in range(len(one))])


def is_below(one, other):
    """Whether one row is below the other one."""
    want_row(one, "one")
    want_row(other, "other")
    if len(one) != len(other):
        raise Misfit("other")
    return lies_below(one, other)


def row_of(places, lefts, rights):
    """The row of so many places that has these two sides."""
    if not is_within(places, 1, MOST_PLACES):
        raise BadNumber("places")
    if not are_unlike(lefts, 0, places - 1):
        raise BadRow("lefts")
    if not are_unlike(rights, 0, places - 1):
        raise BadRow("rights")
    signs = ["0"] * places
    for place in lefts:
        signs[place] = "+"
    for place in rights:
        if signs[place] == "+":
            raise Misfit("rights")
        signs[place] = "-"
    row = "".join(signs)
    if not is_row(row):
        raise Misfit("rights")
    return row


def rows_above(signs):
    """All rows that the signs, perhaps all of them 0, are below, ascending."""
    found = [""]
    for sign in signs:
        choices = SIGNS if sign == "0" else (sign,)
        found = [head + choice for head in found for choice in choices]
    # The signs themselves have 0, the greatest sign, wherever there is a choice: they come last.
    return found[:-1]


def rows_of(places):
    """All rows of so many places, ascending."""
    if not is_within(places, 1, MOST_LISTED):
        raise BadNumber("places")
    return tuple(rows_above("0" * places))
