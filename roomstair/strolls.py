"""Walks that go on step by step, and what a desk answers about them."""

from roomstair.texts import told_or_dash
from roomstair.turns import clash_among, turns_among
from roomstair.walks import first_state, next_state


class Stroll:
    """A walk that has gone some steps: its labelling, the state at which it is, how many steps these are."""

    def __init__(self, labelling, state, steps):
        self.labelling = labelling
        self.state = state
        self.chain, self.labels, self.came = state
        self.steps = steps


def begun(labelling):
    """The walk of a labelling at its beginning."""
    return Stroll(labelling, first_state(labelling), 0)


def gone_on(stroll, most):
    """The walk so many steps on, or as many till it ends, if these are fewer."""
    state = stroll.state
    steps = stroll.steps
    for _ in range(most):
        ahead = next_state(stroll.labelling, state)
        if ahead is None:
            break
        state = ahead
        steps += 1
    return Stroll(stroll.labelling, state, steps)


def at_answer(stroll):
    """The rows of the chain at which the walk is."""
    return " ".join(stroll.chain)


def labels_answer(stroll):
    """The labels of these rows."""
    return " ".join([told_or_dash(label) for label in stroll.labels])


def came_answer(stroll):
    """The index of the row that the door lacks by which the walk came."""
    return told_or_dash(stroll.came)


def steps_answer(stroll):
    """How many steps the walk has gone."""
    return str(stroll.steps)


def state_answer(stroll):
    """Whether the chain at which the walk is clashes, or is a climb, and from which sign."""
    if clash_among(stroll.labels):
        return "clash"
    turns = turns_among(stroll.labels)
    if turns is None or len(stroll.chain) < stroll.labelling.places:
        return "open"
    return f"climb {turns}"


# What is asked about a walk, by the first item of a line.
STROLL_ASKS = {
    "at": at_answer,
    "labels": labels_answer,
    "came": came_answer,
    "steps": steps_answer,
    "state": state_answer,
}


def stroll_answer(word, stroll):
    """The answer to what is asked about a walk."""
    answer = STROLL_ASKS[word]
    return answer(stroll)
