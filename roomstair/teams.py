"""Teams of people, numbered from 0 on."""

from roomstair.checks import are_unlike, is_list, is_within
from roomstair.errors import BadNumber, BadTeams

MOST_PEOPLE = 12
MOST_TEAMS = 500


def is_team(value, people):
    """Whether any value is a list of unlike people, one at least, in any order."""
    return are_unlike(value, 0, people - 1) and len(value) > 0


def are_teams(value, people):
    """Whether any value is a list of unlike teams, neither none nor too many."""
    if not is_list(value) or not is_within(len(value), 1, MOST_TEAMS):
        return False
    if not all([is_team(item, people) for item in value]):
        return False
    return len({tuple(sorted(item)) for item in value}) == len(value)


def mask_of(people):
    """One integer that has a bit for each of the people: lots are so compared at once."""
    return sum([1 << person for person in people])


class Teams:
    """Some people, and teams of them, ascending."""

    def __init__(self, people, teams):
        if not is_within(people, 1, MOST_PEOPLE):
            raise BadNumber("people")
        if not are_teams(teams, people):
            raise BadTeams("teams")
        self.people = people
        self.teams = tuple(sorted([tuple(sorted(team)) for team in teams]))
        self.many = len(self.teams)

    def __eq__(self, other):
        return isinstance(other, Teams) and self.people == other.people and self.teams == other.teams
