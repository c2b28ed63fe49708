"""Teams in another order of the people, and the order in which most rooms are needed."""

from itertools import permutations

from roomstair.checks import are_unlike
from roomstair.errors import BadOrder, TooMany
from roomstair.teams import Teams, want_teams
from roomstair.waves import freest_sides, lots_that_hold

# So many people have few enough orders to look at each one.
MOST_ORDERED = 6


def is_order(value, many):
    """Whether any value is a list of all numbers below many, each once."""
    return are_unlike(value, 0, many - 1) and len(value) == many


def team_in_order(team, order):
    """A team in an order, ascending: the person order[i] becomes i."""
    return tuple(sorted([order.index(person) for person in team]))


def in_order(teams, order):
    """The Teams in an order."""
    want_teams(teams)
    if not is_order(order, teams.people):
        raise BadOrder("order")
    return Teams(teams.people, [team_in_order(team, order) for team in teams.teams])


def best_order(teams):
    """The pair of the first order in which need is greatest, and of this need."""
    want_teams(teams)
    if teams.people > MOST_ORDERED:
        raise TooMany("people", MOST_ORDERED)
    holding = lots_that_hold(teams)
    best, least = None, teams.people + 1
    for order in permutations(range(teams.people)):
        most = freest_sides(order, holding)[0]
        if most < least:
            best, least = order, most
    return best, teams.people - least
