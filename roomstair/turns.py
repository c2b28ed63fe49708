"""Labels and chains that go by turns, chains that clash, climbs."""

from roomstair.checks import is_integer, is_list
from roomstair.errors import BadLabels
from roomstair.tables import labels_of


def are_labels(value):
    """Whether any value is a list of integers that are not 0, one at least."""
    if not is_list(value) or len(value) == 0:
        return False
    return all([is_integer(label) and label != 0 for label in value])


def is_turn(lesser, label):
    """Whether a label may come next behind another one, by amount, in labels that go by turns."""
    return abs(lesser) < abs(label) and (lesser > 0) != (label > 0)


def by_amount(told):
    """The indexes of labels, none lacking, ascending by their amounts."""
    return [at for _, at in sorted([(abs(label), at) for at, label in enumerate(told)])]


def turns_among(told):
    """The sign from which labels, one at least and none lacking, go by turns, None if they do not."""
    ordered = sorted(told, key=abs)
    if not all([is_turn(ordered[at - 1], ordered[at]) for at in range(1, len(ordered))]):
        return None
    return "+" if ordered[0] > 0 else "-"


def by_turns(labels):
    """The sign from which labels go by turns, None if they do not."""
    if not are_labels(labels):
        raise BadLabels("labels")
    return turns_among(labels)


def clash_among(told):
    """Whether one of the labels of a chain lacks, or two of them are opposite.

    Of any two rows of a chain one is below the other one: so these two are opposed.
    """
    return None in told or any([-label in told for label in told])


def turns_of(labelling, chain):
    """The sign from which a chain goes by turns, or None."""
    told = labels_of(labelling, chain)
    return None if None in told else turns_among(told)


def clashes(labelling, chain):
    """Whether a chain clashes."""
    return clash_among(labels_of(labelling, chain))


def is_climb(labelling, chain):
    """Whether a chain is a climb."""
    turns = turns_of(labelling, chain)
    return turns is not None and len(chain) == labelling.places
