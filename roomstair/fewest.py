"""The fewest rooms that some teams need, and a filling with so many."""

from roomstair.errors import TooMany
from roomstair.fillings import Filling
from roomstair.groups import fewest_groups, group_numbers
from roomstair.teams import want_teams
from roomstair.webs import MOST_HUED, web_of


def apart_masks(teams):
    """For each team the mask of the teams that are apart from it."""
    want_teams(teams)
    if teams.many > MOST_HUED:
        raise TooMany("teams", MOST_HUED)
    return web_of(teams).near


def fewest_rooms(teams):
    """How many rooms are the fewest by which no two teams apart are in one room."""
    return len(fewest_groups(apart_masks(teams)))


def fewest_filling(teams):
    """A Filling with the fewest rooms, from 1 on, that has no two teams apart in one room."""
    numbers = group_numbers(apart_masks(teams))
    return Filling(teams, [number + 1 for number in numbers])
