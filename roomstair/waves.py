"""What the sides of rows hold, which rows are free for some teams, and how many waves these have."""

from roomstair.errors import Misfit
from roomstair.rows import row_of, want_row
from roomstair.teams import mask_of, want_teams


def teams_on(teams, row, sign):
    """The teams all of whose people are places of a row with the sign, ascending."""
    return tuple([team for team in teams.teams if all([row[person] == sign for person in team])])


def held(teams, row):
    """The pair of the teams that the left side of a row holds, and of those that the right one does."""
    want_teams(teams)
    want_row(row, "row")
    if len(row) != teams.people:
        raise Misfit("row")
    return teams_on(teams, row, "+"), teams_on(teams, row, "-")


def is_free(teams, row):
    """Whether neither side of a row holds a team."""
    return held(teams, row) == ((), ())


def lots_that_hold(teams):
    """For each lot of people, by its mask, whether it holds a team."""
    masks = {mask_of(team): True for team in teams.teams}
    holding = []
    for lot in range(1 << teams.people):
        smaller = [lot - (1 << person) for person in range(teams.people) if (lot >> person) & 1]
        holding.append(lot in masks or any([holding[part] for part in smaller]))
    return holding


def one_wave_more(rows, order, holding):
    """All free rows by turns that one of the rows becomes with one sign more behind.

    A row is told by the mask of the side that the next sign goes to, that of the other side, and
    the place in the order of the people from which on the next sign may stand.
    """
    longer = []
    for side, other, start in rows:
        for place in range(start, len(order)):
            grown = side | (1 << order[place])
            if not holding[grown]:
                longer.append((other, grown, place + 1))
    return longer


def freest_sides(order, holding):
    """Most, in an order of the people, and the masks of both sides of a free row with so many waves.

    Rows by turns are enough: below each free row there is one of these, free, with as many waves.
    """
    most = 0
    rows = [(0, 0, 0)]
    longer = one_wave_more(rows, order, holding)
    while longer:
        most += 1
        rows = longer
        longer = one_wave_more(rows, order, holding)
    return most, rows[0][:2]


def most_waves(teams):
    """Most: the greatest number of waves of a free row, 0 if no row is free."""
    want_teams(teams)
    return freest_sides(list(range(teams.people)), lots_that_hold(teams))[0]


def need(teams):
    """How many people there are, less most."""
    most = most_waves(teams)
    return teams.people - most


def freest(teams):
    """A free row with most waves, None if no row is free."""
    want_teams(teams)
    people = list(range(teams.people))
    most, sides = freest_sides(people, lots_that_hold(teams))
    if most == 0:
        return None
    lefts, rights = [[person for person in people if (side >> person) & 1] for side in sides]
    return row_of(teams.people, lefts, rights)
