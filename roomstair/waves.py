"""Which rows are free for some teams, and how many waves these have."""

from roomstair.errors import BadTeams
from roomstair.teams import Teams, mask_of


def lots_that_hold(teams):
    """For each lot of people, by its mask, whether it holds a team."""
    masks = {mask_of(team): True for team in teams.teams}
    holding = []
    for lot in range(1 << teams.people):
        smaller = [lot - (1 << person) for person in range(teams.people) if (lot >> person) & 1]
        holding.append(lot in masks or any([holding[part] for part in smaller]))
    return holding


def one_wave_more(rows, people, holding):
    """All free rows by turns that one of the rows becomes with one sign more behind.

    A row is told by the mask of the side that the next sign goes to, that of the other side, and
    the place from which on the next sign may stand.
    """
    longer = []
    for side, other, start in rows:
        for place in range(start, people):
            grown = side | (1 << place)
            if not holding[grown]:
                longer.append((other, grown, place + 1))
    return longer


def most_waves(teams):
    """Most: the greatest number of waves of a free row, 0 if no row is free."""
    if not isinstance(teams, Teams):
        raise BadTeams("teams")
    # Rows by turns are enough: below each free row there is one of these, free, with as many waves.
    holding = lots_that_hold(teams)
    most = 0
    rows = one_wave_more([(0, 0, 0)], teams.people, holding)
    while rows:
        most += 1
        rows = one_wave_more(rows, teams.people, holding)
    return most
