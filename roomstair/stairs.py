"""The stair or the clash of a filling, as its climbs and its rows without a label show them."""

from roomstair.errors import Misfit
from roomstair.fillings import want_filling
from roomstair.papers import Denial, Paper
from roomstair.tables import labels_of
from roomstair.turns import by_amount, clashes, is_climb
from roomstair.walks import end_of
from roomstair.waves import held


class Stair(Paper):
    """The paper of the steps of a stair, pairs of a room and a team."""

    def __init__(self, steps):
        Paper.__init__(self, "stair", steps)
        self.steps = self.parts[0]


class Clash(Denial):
    """The denial that tells two teams, apart and in one room."""

    def __init__(self, one, other):
        Denial.__init__(self, "clash", one, other)
        self.one, self.other = self.parts


def rooms_by_team(filling):
    """The rooms of a filling by its teams."""
    return dict(zip(filling.teams.teams, filling.rooms))


def clash_shown(filling, row):
    """The Clash that a row without a label shows."""
    rooms = rooms_by_team(filling)
    lefts, rights = held(filling.teams, row)
    # The greatest room on the right side is the same: otherwise the row would have a label.
    greatest = max([rooms[team] for team in lefts])
    shown = [[team for team in side if rooms[team] == greatest][0] for side in (lefts, rights)]
    return Clash(shown[0], shown[1])


def step_shown(filling, row, label):
    """The pair of a room and a team that a row shows, its label being none of its waves."""
    rooms = rooms_by_team(filling)
    lefts, rights = held(filling.teams, row)
    room = abs(label) - filling.most
    side = lefts if label > 0 else rights
    return room, [team for team in side if rooms[team] == room][0]


def stair_in(filling, chain):
    """The Stair that a climb of a filling shows."""
    want_filling(filling)
    if not is_climb(filling, chain):
        raise Misfit("chain")
    told = labels_of(filling, chain)
    # There are as many labels as people: so need are left behind as many as most.
    order = by_amount(told)[filling.most:]
    return Stair([step_shown(filling, chain[at], told[at]) for at in order])


def clash_in(filling, chain):
    """The Clash that the first row of a chain without a label shows."""
    want_filling(filling)
    told = labels_of(filling, chain)
    if None not in told:
        raise Misfit("chain")
    return clash_shown(filling, chain[told.index(None)])


def judged(filling):
    """What the last chain of the walk shows: the Clash, if it clashes, otherwise the Stair."""
    want_filling(filling)
    last = end_of(filling)[1]
    return clash_in(filling, last) if clashes(filling, last) else stair_in(filling, last)
