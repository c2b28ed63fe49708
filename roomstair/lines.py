"""The lines that a desk is told: each function reads the items behind the first one."""

from roomstair.errors import BadText
from roomstair.fillings import MOST_ROOM
from roomstair.rows import is_row
from roomstair.tables import table_from
from roomstair.teams import MOST_PEOPLE, teams_from
from roomstair.texts import items_of, want_end, want_integer

MOST_NAME = 12
MOST_STEPS = 1000
LETTERS = "abcdefghijklmnopqrstuvwxyz"
DIGITS = "0123456789"


def is_name(item):
    """Whether an item is a name by which a desk may keep something."""
    if item == "" or len(item) > MOST_NAME or item[0] in DIGITS:
        return False
    return all([sign in LETTERS or sign in DIGITS for sign in item])


def want_name(items, at):
    """The name that stands at an index."""
    if at >= len(items) or not is_name(items[at]):
        raise BadText(0, at)
    return items[at]


def nothing_told(items):
    """No item."""
    want_end(items, 1)
    return ()


def name_told(items):
    """A name."""
    name = want_name(items, 1)
    want_end(items, 2)
    return (name,)


def name_and_row_told(items):
    """A name and a row."""
    name = want_name(items, 1)
    if len(items) < 3 or not is_row(items[2]):
        raise BadText(0, 2)
    want_end(items, 3)
    return name, items[2]


def table_told(items):
    """A name, and the Table whose text comes behind it."""
    return want_name(items, 1), table_from(items, 2)


def teams_told(items):
    """A name, and the Teams whose text comes behind it."""
    return want_name(items, 1), teams_from(items, 2)


def lots_told(items):
    """A name, how many people there are, and how many of them a team has."""
    name = want_name(items, 1)
    people = want_integer(items, 2, 1, MOST_PEOPLE)
    size = want_integer(items, 3, 1, people)
    want_end(items, 4)
    return name, people, size


def rooms_told(items):
    """A name, the name of the teams, and their rooms, one or more."""
    name = want_name(items, 1)
    other = want_name(items, 2)
    # One room at least, even if no item is left for it.
    end = max(len(items), 4)
    return name, other, [want_integer(items, at, 1, MOST_ROOM) for at in range(3, end)]


def steps_told(items):
    """How many steps a walk goes on."""
    many = want_integer(items, 1, 1, MOST_STEPS)
    want_end(items, 2)
    return (many,)


# By the first item what reads the others.
LINES = {
    "table": table_told,
    "teams": teams_told,
    "lots": lots_told,
    "fill": rooms_told,
    "drop": name_told,
    "begin": name_told,
    "go": steps_told,
    "names": nothing_told,
    "text": name_told,
    "label": name_and_row_told,
    "pair": name_told,
    "most": name_told,
    "need": name_told,
    "free": name_and_row_told,
    "judge": name_told,
    "at": nothing_told,
    "labels": nothing_told,
    "came": nothing_told,
    "steps": nothing_told,
    "state": nothing_told,
}


def line_parts(line):
    """The pair of the first item of a line, and of the tuple of what is told behind it."""
    items = items_of(line)
    if items[0] not in LINES:
        raise BadText(0, 0)
    reader = LINES[items[0]]
    return items[0], reader(items)
