"""Rows, chains and fillings as strings to look at."""

from roomstair.fillings import want_filling
from roomstair.rows import sides_of, waves
from roomstair.tables import labels_of
from roomstair.texts import numbers_told, told_or_dash


def side_picture(side):
    """The places of a side, - for a side without a place."""
    return numbers_told(side) if side else "-"


def row_picture(row):
    """A row, and the places of its left and of its right side."""
    lefts, rights = sides_of(row)
    return f"{row} left {side_picture(lefts)} right {side_picture(rights)}"


def chain_picture(labelling, chain):
    """For each row of a chain the row, its waves, and its label, - if it has none."""
    told = labels_of(labelling, chain)
    return tuple([f"{row} {waves(row)} {told_or_dash(label)}" for row, label in zip(chain, told)])


def filling_picture(filling):
    """For each room in which there is a team the room, and the teams in it."""
    want_filling(filling)
    inside = {}
    for room, team in sorted(zip(filling.rooms, filling.teams.teams)):
        inside.setdefault(room, []).append(numbers_told(team))
    return tuple([f"{each} : " + " / ".join(inside[each]) for each in inside])
