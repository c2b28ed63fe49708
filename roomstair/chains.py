"""Chains of rows, each of them below the next one, and d-chains."""

from roomstair.checks import is_list, is_within
from roomstair.errors import BadChain, BadNumber
from roomstair.rows import MOST_PLACES, is_row, lies_below, opposite, size_of


def is_chain(value):
    """Whether any value is a chain."""
    if not is_list(value) or len(value) == 0 or not is_row(value[0]):
        return False
    # No list of all: a long list that is no chain fails within its first rows.
    for at in range(1, len(value)):
        if not is_row(value[at]) or not lies_below(value[at - 1], value[at]):
            return False
    return True


def is_full(value):
    """Whether any value is a d-chain for some d."""
    if not is_chain(value):
        return False
    many = len(value)
    if [size_of(row) for row in value] != list(range(1, many + 1)):
        return False
    return "0" not in value[many - 1][:many]


def want_chain(value, part):
    """Raise BadChain(part) for what is no chain."""
    if not is_chain(value):
        raise BadChain(part)


def want_full(value, part):
    """Raise BadChain(part) for what is no d-chain."""
    if not is_full(value):
        raise BadChain(part)


def half_in(chain):
    """The half of what is known to be a d-chain."""
    last = len(chain) - 1
    return chain[last][last]


def half_of(chain):
    """The half of a d-chain: the sign of its last row at place d - 1."""
    want_full(chain, "chain")
    return half_in(chain)


def new_place(elder, row):
    """The one place at which a row has another sign than the one ahead of it."""
    return [place for place in range(len(row)) if row[place] != elder[place]][0]


def steps_of(chain):
    """The pairs (place, sign) in the order in which the rows of a d-chain take them on."""
    want_full(chain, "chain")
    steps = []
    elder = "0" * len(chain[0])
    for row in chain:
        place = new_place(elder, row)
        steps.append((place, row[place]))
        elder = row
    return tuple(steps)


def opposite_chain(chain):
    """The chain of the opposite rows."""
    want_chain(chain, "chain")
    return tuple([opposite(row) for row in chain])


def is_step(value, many):
    """Whether any value is a pair of a place below many and a sign + or -."""
    if not is_list(value) or len(value) != 2:
        return False
    place, sign = value
    return is_within(place, 0, many - 1) and isinstance(sign, str) and sign in ("+", "-")


def are_steps(value, places):
    """Whether any value is a list of the steps of a d-chain, d from 1 to places."""
    if not is_list(value) or not is_within(len(value), 1, places):
        return False
    if not all([is_step(item, len(value)) for item in value]):
        return False
    return len({item[0] for item in value}) == len(value)


def with_sign(row, place, sign):
    """The row with another sign at a place."""
    return row[:place] + sign + row[place + 1:]


def chain_of(places, steps):
    """The d-chain of rows of so many places that takes these steps on."""
    if not is_within(places, 1, MOST_PLACES):
        raise BadNumber("places")
    if not are_steps(steps, places):
        raise BadChain("steps")
    rows = []
    row = "0" * places
    for place, sign in steps:
        row = with_sign(row, place, sign)
        rows.append(row)
    return tuple(rows)


def one_longer(chain, places):
    """All chains that have one row more behind, of one sign more."""
    last = chain[-1] if chain else "0" * places
    free = [place for place in range(places) if last[place] == "0"]
    return [chain + (with_sign(last, place, sign),) for place in free for sign in ("+", "-")]


def full_chains(places):
    """All d-chains of so many places with d = places, ascending."""
    if not is_within(places, 1, 4):
        raise BadNumber("places")
    chains = [()]
    for _ in range(places):
        chains = [longer for chain in chains for longer in one_longer(chain, places)]
    return tuple(sorted(chains))
