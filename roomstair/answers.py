"""What a desk answers about the Tables, Teams and Fillings that it keeps."""

from roomstair.fillings import Filling
from roomstair.stairs import Clash, judged
from roomstair.tables import Table, label_of, opposed_pair
from roomstair.teams import Teams
from roomstair.texts import numbers_told, told_or_dash
from roomstair.waves import is_free, most_waves, need


def is_kind(value, kind):
    """Whether a kept value is of the kind that is wanted, any value being wanted for None."""
    if kind == "table":
        return isinstance(value, Table)
    if kind == "teams":
        return isinstance(value, Teams)
    if kind == "filling":
        return isinstance(value, Filling)
    return kind is None or isinstance(value, (Table, Filling))


def kept_answer(value):
    """The answer to a deed by which a value is kept."""
    if isinstance(value, Table):
        return f"table {value.places}"
    if isinstance(value, Teams):
        return f"teams {value.people} {value.many}"
    return f"filling {max(value.rooms)}"


def text_answer(value):
    """The text of what is kept."""
    return str(value)


def label_answer(labelling, row):
    """The label of a row."""
    return told_or_dash(label_of(labelling, row))


def pair_answer(table):
    """The first pair of opposed rows."""
    pair = opposed_pair(table)
    return "-" if pair is None else " ".join(pair)


def most_answer(teams):
    """The most waves of a free row."""
    return str(most_waves(teams))


def need_answer(teams):
    """The need."""
    return str(need(teams))


def free_answer(teams, row):
    """Whether a row is free."""
    return "yes" if is_free(teams, row) else "no"


def judge_answer(filling):
    """The stair or the clash that is judged."""
    paper = judged(filling)
    if type(paper) is Clash:
        return f"clash {numbers_told(paper.one)} / {numbers_told(paper.other)}"
    # A stair without steps is told by its word alone, without a blank behind it.
    steps = [f" {room} : {numbers_told(team)}" for room, team in paper.steps]
    return "stair" + " /".join(steps)


# What is asked about what a name keeps, by the first item of a line: the kind that is wanted, and the answer.
KINDS = {
    "text": None,
    "label": "labelling",
    "pair": "table",
    "most": "teams",
    "need": "teams",
    "free": "teams",
    "judge": "filling",
}
ASKS = {
    "text": text_answer,
    "label": label_answer,
    "pair": pair_answer,
    "most": most_answer,
    "need": need_answer,
    "free": free_answer,
    "judge": judge_answer,
}


def asked_answer(word, value, rest):
    """The answer to what is asked about a kept value; rest is what the line tells behind the name."""
    answer = ASKS[word]
    return answer(value, *rest)
