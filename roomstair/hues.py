"""What any hues of a web show: a piece of it with as many hues as are needed, or two tied points of one hue."""

from roomstair.checks import is_integer, is_list, is_within
from roomstair.errors import BadOrder, BadWeb
from roomstair.fillings import Filling, are_rooms
from roomstair.orders import in_order, is_order, team_in_order
from roomstair.papers import Denial, Paper
from roomstair.stairs import Clash, judged
from roomstair.waves import need
from roomstair.webs import is_near, people_in, teams_by_point, teams_of, want_web


class Piece(Paper):
    """The paper of the hues of a piece, ascending, and of its points."""

    def __init__(self, hues, points):
        Paper.__init__(self, "piece", hues, points)
        self.hues, self.points = self.parts


class Same(Denial):
    """The denial that tells two points, tied and of one hue."""

    def __init__(self, one, other):
        Denial.__init__(self, "same", one, other)
        self.one, self.other = self.parts


def want_hues(web, hues):
    """Raise BadWeb for no Web, or for no hues of it."""
    want_web(web)
    # A hue is the room of the team of its point: both have the same bounds.
    if not are_rooms(hues, web.points):
        raise BadWeb("hues")


def teams_in(web, order):
    """The Teams of a web in an order of its people."""
    if not is_order(order, people_in(web)):
        raise BadOrder("order")
    return in_order(teams_of(web), order)


def need_in(web, order):
    """What the teams of a web need in this order."""
    return need(teams_in(web, order))


def judged_hues(web, hues, order):
    """The Same, or the Piece, that the Filling of the teams of a web by these hues shows in this order."""
    want_hues(web, hues)
    teams = teams_in(web, order)
    points = {team_in_order(team, order): point for point, team in enumerate(teams_by_point(web)[1])}
    paper = judged(Filling(teams, [hues[points[team]] for team in teams.teams]))
    if type(paper) is Clash:
        one, other = sorted([points[paper.one], points[paper.other]])
        return Same(one, other)
    return Piece([room for room, _ in paper.steps], [points[team] for _, team in paper.steps])


def is_point(web, value):
    """Whether any value is a point of a web."""
    return is_within(value, 0, web.points - 1)


def is_same(web, hues, one, other):
    """Whether any two values are two tied points of one hue."""
    if not is_point(web, one) or not is_point(web, other):
        return False
    return is_near(web, one, other) and hues[one] == hues[other]


def have_hues(web, hues, told, points):
    """Whether any values are two lists, as long as one another, of hues and of points that have them."""
    if not is_list(told) or not is_list(points) or len(told) != len(points):
        return False
    if not all([is_point(web, point) for point in points]):
        return False
    return all([is_integer(hue) and hue == hues[point] for hue, point in zip(told, points)])


def is_piece(web, hues, told, points):
    """Whether any values are the hues and the points of a piece, of however many points."""
    if not have_hues(web, hues, told, points):
        return False
    if not all([told[at - 1] < told[at] for at in range(1, len(told))]):
        return False
    return all([is_near(web, one, other) for one in points[::2] for other in points[1::2]])


def shows_hues(web, hues, order, value):
    """Whether any value is a Same of two tied points of one hue, or a Piece of just as many points as are needed."""
    want_hues(web, hues)
    many = need_in(web, order)
    if type(value) is Same:
        return is_same(web, hues, value.one, value.other)
    if type(value) is Piece:
        return is_piece(web, hues, value.hues, value.points) and len(value.points) == many
    return False
