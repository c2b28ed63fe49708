"""Whether papers on walks are right, whoever made them."""

from roomstair.climbs import Odd, odd_of
from roomstair.tables import want_labelling
from roomstair.walks import Walk, first_state, next_state


def is_told(value):
    """Whether any value is a tuple of strings, as chains are told within papers."""
    return isinstance(value, tuple) and all([isinstance(row, str) for row in value])


def shows_walk(labelling, value):
    """Whether any value is a Walk of all chains of the walk, in order."""
    want_labelling(labelling)
    if type(value) is not Walk or not isinstance(value.chains, tuple):
        return False
    state = first_state(labelling)
    # Chain by chain: so a wrong paper on a long walk is soon found out.
    for chain in value.chains:
        if state is None or not is_told(chain) or chain != state[0]:
            return False
        state = next_state(labelling, state)
    return state is None


def is_told_pair(value):
    """Whether any value is a pair of tuples of strings."""
    return isinstance(value, tuple) and len(value) == 2 and is_told(value[0]) and is_told(value[1])


def shows_odd(table, value):
    """Whether any value is an Odd of the lone climb, and of the pairs in any order."""
    right = odd_of(table)
    if type(value) is not Odd or not is_told(value.lone) or not isinstance(value.pairs, tuple):
        return False
    if not all([is_told_pair(pair) for pair in value.pairs]):
        return False
    pairs = sorted([tuple(sorted(pair)) for pair in value.pairs])
    return value.lone == right.lone and pairs == list(right.pairs)
