"""Teams of people, numbered from 0 on."""

from roomstair.checks import are_unlike, is_list, is_within
from roomstair.errors import BadNumber, BadTeams, BadText
from roomstair.texts import items_of, numbers_told, want_integer, want_word

MOST_PEOPLE = 12
MOST_TEAMS = 500


def is_team(value, people):
    """Whether any value is a list of unlike people, one at least, in any order."""
    return are_unlike(value, 0, people - 1) and len(value) > 0


def are_teams(value, people):
    """Whether any value is a list of unlike teams, neither none nor too many."""
    if not is_list(value) or not is_within(len(value), 1, MOST_TEAMS):
        return False
    if not all([is_team(item, people) for item in value]):
        return False
    return len({tuple(sorted(item)) for item in value}) == len(value)


def mask_of(people):
    """One integer that has a bit for each of the people: lots are so compared at once."""
    return sum([1 << person for person in people])


def want_team(items, at, people):
    """The people of the team that stands from an index of the items of a text on."""
    team = [want_integer(items, at, 0, people - 1)]
    at += 1
    while at < len(items) and items[at] != "/":
        team.append(want_integer(items, at, team[-1] + 1, people - 1))
        at += 1
    return team


def want_parts(items, start, most_room):
    """The people, the rooms and the teams of the text from an index on; without rooms if most_room is None."""
    people = want_integer(items, start, 1, MOST_PEOPLE)
    rooms = []
    teams = []
    at = start + 1
    while at < len(items) or not teams:
        want_word(items, at, "/")
        if len(teams) == MOST_TEAMS:
            raise BadText(0, at)
        at += 1
        if most_room is not None:
            rooms.append(want_integer(items, at, 1, most_room))
            at += 1
        teams.append(want_team(items, at, people))
        at += len(teams[-1])
    # Only the whole shows that the teams do not ascend.
    if any([teams[number - 1] >= teams[number] for number in range(1, len(teams))]):
        raise BadText(0, len(items) - 1)
    return people, rooms, teams


class Teams:
    """Some people, and teams of them, ascending."""

    def __init__(self, people, teams):
        if not is_within(people, 1, MOST_PEOPLE):
            raise BadNumber("people")
        if not are_teams(teams, people):
            raise BadTeams("teams")
        self.people = people
        self.teams = tuple(sorted([tuple(sorted(team)) for team in teams]))
        self.many = len(self.teams)

    def __eq__(self, other):
        return isinstance(other, Teams) and self.people == other.people and self.teams == other.teams

    def __str__(self):
        return " / ".join([str(self.people), *[numbers_told(team) for team in self.teams]])

    @staticmethod
    def read(text):
        """The Teams whose text this is."""
        return teams_from(items_of(text), 0)


def teams_from(items, start):
    """The Teams whose text the items from an index on are."""
    people, _, teams = want_parts(items, start, None)
    return Teams(people, teams)


def want_teams(value, part="teams"):
    """Raise BadTeams(part) for no Teams."""
    if not isinstance(value, Teams):
        raise BadTeams(part)


def are_apart(one, other):
    """Whether nobody is in both of two teams."""
    if not is_team(one, MOST_PEOPLE):
        raise BadTeams("one")
    if not is_team(other, MOST_PEOPLE):
        raise BadTeams("other")
    return mask_of(one) & mask_of(other) == 0


def apart_pairs(teams):
    """The pairs of the numbers of two teams that are apart, ascending."""
    want_teams(teams)
    masks = [mask_of(team) for team in teams.teams]
    pairs = [(i, j) for i in range(teams.many) for j in range(i + 1, teams.many)]
    return tuple([pair for pair in pairs if masks[pair[0]] & masks[pair[1]] == 0])
