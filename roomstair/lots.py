"""All teams of one size, the spread ones among them, and a filling of them with the fewest rooms."""

from itertools import combinations

from roomstair.checks import is_within
from roomstair.errors import BadNumber, TooMany
from roomstair.fillings import Filling
from roomstair.teams import MOST_PEOPLE, MOST_TEAMS, Teams


def want_people(people):
    """Raise BadNumber("people") for no number of people that Teams may have."""
    if not is_within(people, 1, MOST_PEOPLE):
        raise BadNumber("people")


def all_teams(people, size):
    """The Teams of all teams of this size."""
    want_people(people)
    if not is_within(size, 1, people):
        raise BadNumber("size")
    lots = list(combinations(range(people), size))
    if len(lots) > MOST_TEAMS:
        raise TooMany("teams", MOST_TEAMS)
    return Teams(people, lots)


def is_spread(team):
    """Whether no two numbers of a team, ascending, differ by 1."""
    return all([team[at] - team[at - 1] > 1 for at in range(1, len(team))])


def spread_teams(people, size):
    """The Teams of the spread ones among all teams of this size."""
    want_people(people)
    if not is_within(size, 1, (people + 1) // 2):
        raise BadNumber("size")
    # They are few enough, however many people there may be.
    return Teams(people, [team for team in combinations(range(people), size) if is_spread(team)])


def plain_filling(people, size):
    """The Filling of all teams of this size by their least people, without a clash."""
    teams = all_teams(people, size)
    last = max(1, people - 2 * size + 2)
    return Filling(teams, [min(team[0] + 1, last) for team in teams.teams])
