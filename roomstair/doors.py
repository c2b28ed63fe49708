"""The doors of d-chains, and the d-chains beyond these."""

from roomstair.chains import half_in, want_full
from roomstair.checks import is_within
from roomstair.errors import BadNumber, Misfit
from roomstair.rows import OPPOSITES
from roomstair.tables import labels_of, want_labelling
from roomstair.turns import clash_among, turns_among


def doors_among(told, half):
    """The indexes of the labels without which those that are left go by turns from the half, ascending."""
    if len(told) == 1:
        return ()
    return tuple([at for at in range(len(told)) if turns_among(told[:at] + told[at + 1:]) == half])


def doors_of(labelling, chain):
    """The indexes of the rows without which what is left of a d-chain is a door, ascending."""
    want_labelling(labelling)
    want_full(chain, "chain")
    told = labels_of(labelling, chain)
    if clash_among(told):
        raise Misfit("chain")
    return doors_among(told, half_in(chain))


def row_beyond(chain, index):
    """The row in the place of the one with this index in the d-chain beyond; None if there is none."""
    row = chain[index]
    lower = chain[index - 1] if index > 0 else "0" * len(row)
    if index < len(chain) - 1:
        # Of the two places that come between its neighbours, the other one comes first.
        upper = chain[index + 1]
        return "".join([above if here == below else below for below, here, above in zip(lower, row, upper)])
    # Any other sign at the place d - 1 would be another half: what is left is down of the d-chain.
    if lower[index] == "0":
        return None
    return "".join([here if here == below else OPPOSITES[here] for below, here in zip(lower, row)])


def beyond(chain, index):
    """The d-chain beyond a d-chain, by the row with this index; None if there is none."""
    want_full(chain, "chain")
    if not is_within(index, 0, len(chain) - 1):
        raise BadNumber("index")
    if len(chain) == 1:
        raise Misfit("chain")
    row = row_beyond(chain, index)
    return None if row is None else (*chain[:index], row, *chain[index + 1:])
