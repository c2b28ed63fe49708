"""Whether papers on fillings are right, whoever made them."""

from roomstair.checks import is_integer, is_list
from roomstair.fillings import want_filling
from roomstair.stairs import Clash, Stair, rooms_by_team
from roomstair.teams import is_team, mask_of


def room_of(filling, team):
    """The room of a team, whatever value this is; None if it is no team of the filling."""
    if not is_team(team, filling.places):
        return None
    return rooms_by_team(filling).get(tuple(sorted(team)))


def is_step(filling, value):
    """Whether any value is a pair of a room and a team of this room."""
    if not is_list(value) or len(value) != 2:
        return False
    room, team = value
    return is_integer(room) and room == room_of(filling, team)


def are_apart_by_turns(teams):
    """Whether each of the first, third team and so on is apart from each of the second, fourth and so on."""
    masks = [mask_of(team) for team in teams]
    return all([one & other == 0 for one in masks[::2] for other in masks[1::2]])


def is_stair(filling, steps):
    """Whether any value is a stair of a filling."""
    # Need is the number of people less most, which a filling keeps.
    if not is_list(steps) or len(steps) != filling.places - filling.most:
        return False
    if not all([is_step(filling, item) for item in steps]):
        return False
    rooms = [room for room, _ in steps]
    if not all([rooms[at - 1] < rooms[at] for at in range(1, len(rooms))]):
        return False
    return are_apart_by_turns([team for _, team in steps])


def is_clash(filling, one, other):
    """Whether any two values are two teams of a filling that are a clash."""
    room = room_of(filling, one)
    return room is not None and room == room_of(filling, other) and are_apart_by_turns([one, other])


def shows_filling(filling, value):
    """Whether any value is a Stair of any stair of the filling, or a Clash of any clash of it."""
    want_filling(filling)
    if type(value) is Stair:
        return is_stair(filling, value.steps)
    if type(value) is Clash:
        return is_clash(filling, value.one, value.other)
    return False
