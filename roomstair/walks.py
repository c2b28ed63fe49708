"""The walk of a labelling, from d-chain to d-chain, and the walks back from its climbs.

A state of a walk is a triple: the chain at which it is, the labels of this, and how it came there.
"""

from roomstair.chains import half_in, want_chain, want_full, with_sign
from roomstair.checks import is_within
from roomstair.doors import doors_among, row_beyond
from roomstair.errors import BadNumber, Misfit, TooMany
from roomstair.papers import Paper
from roomstair.rows import opposite
from roomstair.tables import labels_of, want_labelling
from roomstair.turns import by_amount, clash_among, is_climb, turns_among

MOST_CHAINS = 2000


def way_out(told, half, came):
    """The index of the row that the door lacks by which the walk did not come."""
    order = by_amount(told)
    if came is None:
        # The chain goes by turns: without its greatest label from the same sign, without its least one not.
        return order[-1] if half == turns_among(told) else order[0]
    # By amount, just one neighbour of the row left out has a label of like sign: as what is left
    # without the one of these two goes by turns, so does what is left without the other one.
    rank = order.index(came)
    if rank > 0 and (told[order[rank - 1]] > 0) == (told[came] > 0):
        return order[rank - 1]
    return order[rank + 1]


def upward(labelling, state, sign):
    """The state after the walk went up, with this sign."""
    chain, told, _ = state
    place = len(chain)
    row = with_sign(chain[-1], place, sign)
    return (*chain, row), (*told, labelling.label(row)), place


def next_state(labelling, state):
    """The state to which a walk goes from this one, None where it ends."""
    chain, told, came = state
    if clash_among(told):
        return None
    many = len(chain)
    turns = turns_among(told)
    if turns is not None and (came is not None or many == 1):
        return None if many == labelling.places else upward(labelling, state, turns)
    index = way_out(told, half_in(chain), came)
    row = row_beyond(chain, index)
    if row is None:
        return chain[:-1], told[:-1], None
    label = labelling.label(row)
    return (*chain[:index], row, *chain[index + 1:]), (*told[:index], label, *told[index + 1:]), index


def first_state(labelling):
    """The state with which the walk begins."""
    row = "+" + "0" * (labelling.places - 1)
    # A row with one sign has a label by any labelling.
    if labelling.label(row) < 0:
        row = opposite(row)
    return (row,), (labelling.label(row),), None


def want_way(told, half, came):
    """Raise Misfit("came") if no walk comes so to a d-chain with these labels and this half."""
    if came is not None and came not in doors_among(told, half):
        raise Misfit("came")
    # A 1-chain always goes by turns: there None is the beginning.
    if came is None and turns_among(told) is None:
        raise Misfit("came")


def step(labelling, chain, came):
    """The pair of the chain to which the walk goes, and of how it comes there; None where it ends."""
    want_labelling(labelling)
    want_full(chain, "chain")
    if came is not None and not is_within(came, 0, len(chain) - 1):
        raise BadNumber("came")
    told = labels_of(labelling, chain)
    if not clash_among(told):
        want_way(told, half_in(chain), came)
    state = next_state(labelling, (tuple(chain), told, came))
    return None if state is None else (state[0], state[2])


def chains_from(labelling, state, back):
    """The tuple of all chains from a state on, in order; whether the walk is a walk back is told."""
    chains = []
    while state is not None:
        if len(chains) == MOST_CHAINS:
            raise TooMany("chains", MOST_CHAINS)
        chains.append(state[0])
        # A walk back ends where it comes down to a 1-chain.
        ended = back and len(state[0]) == 1
        state = None if ended else next_state(labelling, state)
    return tuple(chains)


def walk_of(labelling):
    """All chains of the walk, in order."""
    want_labelling(labelling)
    return chains_from(labelling, first_state(labelling), False)


def end_of(labelling):
    """The pair of how many chains the walk has, and of the last one."""
    want_labelling(labelling)
    state = first_state(labelling)
    many = 0
    while state is not None:
        many += 1
        last = state[0]
        state = next_state(labelling, state)
    return many, last


def back_of(labelling, climb):
    """All chains of the walk back from a climb, in order, the climb first."""
    want_labelling(labelling)
    want_chain(climb, "climb")
    if len(climb[0]) != labelling.places or not is_climb(labelling, climb):
        raise Misfit("climb")
    return chains_from(labelling, (tuple(climb), labels_of(labelling, climb), None), True)


class Walk(Paper):
    """The paper of all chains of a walk, in order."""

    def __init__(self, chains):
        Paper.__init__(self, "walk", chains)
        self.chains = self.parts[0]


def walked(labelling):
    """The Walk of the labelling."""
    return Walk(walk_of(labelling))
