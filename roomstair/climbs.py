"""All climbs of a table; where no rows are opposed, they are odd in number."""

from roomstair.chains import full_chains, opposite_chain
from roomstair.errors import Misfit
from roomstair.papers import Paper
from roomstair.tables import opposed_pair, want_table
from roomstair.turns import turns_of
from roomstair.walks import back_of, end_of

MOST_SEARCHED = 4


def want_small(table):
    """Raise BadTable or Misfit for what is no Table whose climbs are all looked for."""
    want_table(table)
    if table.places > MOST_SEARCHED:
        raise Misfit("places")


def climbs(table):
    """All climbs from +, ascending."""
    want_small(table)
    return tuple([chain for chain in full_chains(table.places) if turns_of(table, chain) == "+"])


def how_many(table):
    """How many climbs from + there are."""
    return len(climbs(table))


class Odd(Paper):
    """The paper of the climb that is left alone, and of all others in pairs."""

    def __init__(self, lone, pairs):
        Paper.__init__(self, "odd", lone, pairs)
        self.lone, self.pairs = self.parts


def from_plus(table, climb):
    """That one of a climb and its opposite that goes by turns from +."""
    return climb if turns_of(table, climb) == "+" else opposite_chain(climb)


def odd_of(table):
    """The Odd of a Table in which no two rows are opposed."""
    want_small(table)
    if opposed_pair(table) is not None:
        raise Misfit("table")
    lone = from_plus(table, end_of(table)[1])
    others = [climb for climb in climbs(table) if climb != lone]
    ends = [from_plus(table, back_of(table, climb)[-1]) for climb in others]
    return Odd(lone, [pair for pair in zip(others, ends) if pair[0] < pair[1]])
