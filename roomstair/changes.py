"""Changed Tables, whose labels are those of other rows; Teams with a team or a person more, or joined ones."""

from roomstair.chains import with_sign
from roomstair.checks import is_within
from roomstair.errors import BadNumber, BadOrder, BadTeams, Misfit, TooMany, Twice
from roomstair.orders import is_order
from roomstair.rows import OPPOSITES, opposite
from roomstair.tables import Table, told_rows, want_table
from roomstair.teams import MOST_PEOPLE, MOST_TEAMS, Teams, is_team, want_teams


def opposite_table(table):
    """The Table by which each row has the label of the opposite one."""
    want_table(table)
    return Table(table.places, [table.label(opposite(row)) for row in told_rows(table.places)])


def row_permuted(row, order):
    """The row that has at place order[i] the sign that this row has at place i."""
    return "".join([row[order.index(place)] for place in range(len(row))])


def permuted(table, order):
    """The Table by which each row has the label of the permuted one."""
    want_table(table)
    if not is_order(order, table.places):
        raise BadOrder("order")
    return Table(table.places, [table.label(row_permuted(row, order)) for row in told_rows(table.places)])


def flipped(table, place):
    """The Table by which each row has the label of the one with + and - exchanged at a place."""
    want_table(table)
    if not is_within(place, 0, table.places - 1):
        raise BadNumber("place")
    rows = [with_sign(row, place, OPPOSITES[row[place]]) for row in told_rows(table.places)]
    return Table(table.places, [table.label(row) for row in rows])


def known_team(teams, team):
    """A team of the people of some Teams, ascending, whether or not it is one of these."""
    want_teams(teams)
    if not is_team(team, teams.people):
        raise BadTeams("team")
    return tuple(sorted(team))


def want_few_teams(many):
    """Raise TooMany for more teams than Teams may have."""
    if many > MOST_TEAMS:
        raise TooMany("teams", MOST_TEAMS)


def with_team(teams, team):
    """The Teams with a team more."""
    known = known_team(teams, team)
    if known in teams.teams:
        raise Twice(team)
    want_few_teams(teams.many + 1)
    return Teams(teams.people, (*teams.teams, known))


def without_team(teams, team):
    """The Teams without one of the teams."""
    known = known_team(teams, team)
    if known not in teams.teams or teams.many == 1:
        raise Misfit("team")
    return Teams(teams.people, [each for each in teams.teams if each != known])


def want_few_people(people):
    """Raise TooMany for more people than Teams may have."""
    if people > MOST_PEOPLE:
        raise TooMany("people", MOST_PEOPLE)


def with_person(teams):
    """The Teams with a last person more, who is in no team."""
    want_teams(teams)
    want_few_people(teams.people + 1)
    return Teams(teams.people + 1, teams.teams)


def joined(one, other):
    """The Teams of both: the people of the other one come behind those of the one."""
    want_teams(one, "one")
    want_teams(other, "other")
    want_few_people(one.people + other.people)
    want_few_teams(one.many + other.many)
    moved = [tuple([one.people + person for person in team]) for team in other.teams]
    return Teams(one.people + other.people, (*one.teams, *moved))
