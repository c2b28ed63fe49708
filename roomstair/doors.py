"""The doors of d-chains, and the d-chains beyond these."""

from roomstair.chains import chain_of, half_of, steps_of, want_full
from roomstair.checks import is_within
from roomstair.errors import BadNumber, Misfit
from roomstair.rows import OPPOSITES
from roomstair.tables import labels_of, want_labelling
from roomstair.turns import by_turns, clash_among


def doors_of(labelling, chain):
    """The indexes of the rows without which what is left of a d-chain is a door, ascending."""
    want_labelling(labelling)
    want_full(chain, "chain")
    told = labels_of(labelling, chain)
    if clash_among(told):
        raise Misfit("chain")
    if len(told) == 1:
        return ()
    half = half_of(chain)
    return tuple([at for at in range(len(told)) if by_turns(told[:at] + told[at + 1:]) == half])


def steps_beyond(steps, index):
    """The steps of the d-chain beyond the one of these steps, None if there is none."""
    if index < len(steps) - 1:
        return steps[:index] + (steps[index + 1], steps[index]) + steps[index + 2:]
    place, sign = steps[index]
    # Any other sign at this place would be another half: what is left is down of the d-chain.
    if place == index:
        return None
    return steps[:index] + ((place, OPPOSITES[sign]),)


def beyond(chain, index):
    """The d-chain beyond a d-chain, by the row with this index; None if there is none."""
    want_full(chain, "chain")
    if not is_within(index, 0, len(chain) - 1):
        raise BadNumber("index")
    if len(chain) == 1:
        raise Misfit("chain")
    steps = steps_beyond(steps_of(chain), index)
    return None if steps is None else chain_of(len(chain[0]), steps)
