"""Webs of points, some of them tied; each web is one of teams, tied where they are apart."""

from roomstair.checks import is_list, is_within
from roomstair.errors import BadNumber, BadWeb, TooMany
from roomstair.groups import fewest_groups
from roomstair.teams import MOST_PEOPLE, Teams, apart_pairs, mask_of, want_teams

MOST_POINTS = 60
# So few points, or teams, that the fewest hues, or rooms, are soon found.
MOST_HUED = 14


def is_tie(value, points):
    """Whether any value is a pair of points, one below the other."""
    if not is_list(value) or len(value) != 2:
        return False
    one, other = value
    return is_within(other, 0, points - 1) and is_within(one, 0, other - 1)


def are_ties(value, points):
    """Whether any value is a list, perhaps of none, of unlike ties."""
    if not is_list(value) or not all([is_tie(item, points) for item in value]):
        return False
    return len({tuple(item) for item in value}) == len(value)


def masks_of_ties(points, ties):
    """For each point the mask of the points that are tied to it."""
    near = [[] for _ in range(points)]
    for one, other in ties:
        near[one].append(other)
        near[other].append(one)
    return tuple([mask_of(others) for others in near])


class Web:
    """Some points, and ties between them, ascending."""

    def __init__(self, points, ties):
        if not is_within(points, 1, MOST_POINTS):
            raise BadNumber("points")
        if not are_ties(ties, points):
            raise BadWeb("ties")
        self.points = points
        self.ties = tuple(sorted([tuple(tie) for tie in ties]))
        # Kept, as all that is asked of a web hangs on them.
        self.near = masks_of_ties(points, self.ties)

    def __eq__(self, other):
        return isinstance(other, Web) and self.points == other.points and self.ties == other.ties


def want_web(value):
    """Raise BadWeb("web") for no Web."""
    if not isinstance(value, Web):
        raise BadWeb("web")


def want_point(web, value, part):
    """Raise BadNumber(part) for no point of a web."""
    if not is_within(value, 0, web.points - 1):
        raise BadNumber(part)


def is_near(web, one, other):
    """Whether two points of a web are tied."""
    return (web.near[one] >> other) & 1 == 1


def are_tied(web, one, other):
    """Whether two points, in any order, are tied."""
    want_web(web)
    want_point(web, one, "one")
    want_point(web, other, "other")
    return is_near(web, one, other)


def web_of(teams):
    """The Web of the teams by their numbers, tied where they are apart."""
    want_teams(teams)
    if teams.many > MOST_POINTS:
        raise TooMany("points", MOST_POINTS)
    return Web(teams.many, apart_pairs(teams))


def untied_pairs(web):
    """The pairs of points that are not tied, ascending."""
    points = range(web.points)
    return [(one, other) for one in points for other in range(one + 1, web.points) if not is_near(web, one, other)]


def team_told(own, point, lot):
    """The team of a point, by the points that have own people, and by the numbers of its pairs."""
    first = [own.index(point)] if point in own else []
    return tuple(first + [len(own) + number for number in lot])


def teams_by_point(web):
    """The pair of how many people a web has, and of the list of the teams of its points."""
    pairs = untied_pairs(web)
    lots = [[] for _ in range(web.points)]
    for number, (one, other) in enumerate(pairs):
        lots[one].append(number)
        lots[other].append(number)
    own = [point for point, lot in enumerate(lots) if not lot or lots.count(lot) > 1]
    return len(own) + len(pairs), [team_told(own, point, lot) for point, lot in enumerate(lots)]


def people_in(web):
    """How many people a web has."""
    want_web(web)
    return teams_by_point(web)[0]


def team_of(web, point):
    """The team of a point, ascending."""
    want_web(web)
    want_point(web, point, "point")
    return teams_by_point(web)[1][point]


def teams_of(web):
    """The Teams of all points."""
    want_web(web)
    people, teams = teams_by_point(web)
    if people > MOST_PEOPLE:
        raise TooMany("people", MOST_PEOPLE)
    return Teams(people, teams)


def fewest_hues(web):
    """How many hues are the fewest by which no two tied points have one hue."""
    want_web(web)
    if web.points > MOST_HUED:
        raise TooMany("points", MOST_HUED)
    return len(fewest_groups(web.near))
