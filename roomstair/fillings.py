"""Fillings put each team into a room; each filling is a labelling of rows."""

from roomstair.checks import is_list, is_within
from roomstair.errors import BadFilling
from roomstair.rows import first_sign, sides_of, waves
from roomstair.teams import Teams, apart_pairs, mask_of, want_parts, want_teams
from roomstair.texts import items_of, numbers_told
from roomstair.waves import most_waves

MOST_ROOM = 500


def are_rooms(value, many):
    """Whether any value is a list of just so many rooms."""
    if not is_list(value) or len(value) != many:
        return False
    return all([is_within(room, 1, MOST_ROOM) for room in value])


def greatest_room(masks, rooms, side):
    """The greatest room of the teams that a side holds, 0 if it holds none."""
    lot = mask_of(side)
    return max([room for mask, room in zip(masks, rooms) if mask & lot == mask], default=0)


class Filling:
    """A room for each of some teams, in the order of the teams."""

    def __init__(self, teams, rooms):
        want_teams(teams)
        if not are_rooms(rooms, teams.many):
            raise BadFilling("rooms")
        self.teams = teams
        self.rooms = tuple(rooms)
        self.places = teams.people
        # Kept, as each label hangs on them, and a walk asks for many labels.
        self.most = most_waves(teams)
        self._masks = tuple([mask_of(team) for team in teams.teams])

    def __eq__(self, other):
        return isinstance(other, Filling) and self.teams == other.teams and self.rooms == other.rooms

    def __str__(self):
        parts = [numbers_told((room, *team)) for room, team in zip(self.rooms, self.teams.teams)]
        return " / ".join([str(self.places), *parts])

    @staticmethod
    def read(text):
        """The Filling whose text this is."""
        people, rooms, teams = want_parts(items_of(text), 0, MOST_ROOM)
        return Filling(Teams(people, teams), rooms)

    def label(self, row):
        """The label of a row of as many places as there are people, None if it has none."""
        lefts, rights = sides_of(row)
        left = greatest_room(self._masks, self.rooms, lefts)
        right = greatest_room(self._masks, self.rooms, rights)
        if left == 0 and right == 0:
            return waves(row) if first_sign(row) == "+" else -waves(row)
        if left == right:
            return None
        return self.most + left if left > right else -self.most - right


def want_filling(value):
    """Raise BadFilling("filling") for no Filling."""
    if not isinstance(value, Filling):
        raise BadFilling("filling")


def clash_pairs(filling):
    """The pairs of the numbers of two teams that are a clash, ascending."""
    want_filling(filling)
    rooms = filling.rooms
    return tuple([pair for pair in apart_pairs(filling.teams) if rooms[pair[0]] == rooms[pair[1]]])
