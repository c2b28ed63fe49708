"""roomstair.lots: all teams of one size, spread teams, the plain filling."""

import itertools
import math
import unittest

from cases import NO_INTEGERS, Case
from roomstair import errors, fillings, lots, teams, waves
from roomstair.errors import BadNumber, TooMany
from roomstair.fillings import Filling, clash_pairs
from roomstair.lots import all_teams, plain_filling, spread_teams
from roomstair.teams import Teams
from roomstair.waves import most_waves, need

OF_ALL = (all_teams, plain_filling)
OF_SIZES = (all_teams, spread_teams, plain_filling)
# All people and sizes of which the teams are not too many.
FEW = [(people, size) for people in range(1, 13) for size in range(1, people + 1) if math.comb(people, size) <= 500]


def lots_by_hand(people, size):
    """All teams of a size, by the digits of all numbers, ascending."""
    masks = [mask for mask in range(1, 2**people) if bin(mask).count("1") == size]
    return tuple(sorted(tuple(person for person in range(people) if mask >> person & 1) for mask in masks))


def is_spread_by_hand(team):
    """Whether no two numbers of a team differ by 1."""
    return not any(abs(one - other) == 1 for one, other in itertools.combinations(team, 2))


class Examples(Case):
    def test_the_examples(self):
        self.examples("""
>>> [all_teams(3, 2).teams, spread_teams(5, 2).teams, spread_teams(size=3, people=5).teams, all_teams(people=2, size=2).teams]
[((0, 1), (0, 2), (1, 2)), ((0, 2), (0, 3), (0, 4), (1, 3), (1, 4), (2, 4)), ((0, 2, 4),), ((0, 1),)]
>>> [need(all_teams(6, 2)), need(spread_teams(6, 2)), need(all_teams(7, 3)), need(all_teams(3, 3)), most_waves(spread_teams(7, 3))]
[4, 4, 3, 0, 4]
>>> [plain_filling(5, 2).rooms, plain_filling(people=3, size=2).rooms, plain_filling(4, 1).rooms, clash_pairs(plain_filling(6, 2))]
[(1, 1, 1, 1, 2, 2, 2, 3, 3, 3), (1, 1, 1), (1, 2, 3, 4), ()]
>>> all_teams(12, 5)
raises TooMany('teams', 500)
>>> spread_teams(4, 3)
raises BadNumber('size')
>>> plain_filling(13, 0)
raises BadNumber('people')
""", {**vars(errors), **vars(teams), **vars(waves), **vars(fillings), **vars(lots)})


class AllTeams(Case):
    def test_all_people_and_sizes(self):
        for people, size in FEW:
            with self.subTest(people=people, size=size):
                wanted = lots_by_hand(people, size)
                for got in (all_teams(people, size), all_teams(size=size, people=people)):
                    self.same([type(got), got.people, got.teams, got.many], [Teams, people, wanted, math.comb(people, size)])

    def test_too_many(self):
        many = [(people, size) for people in range(1, 13) for size in range(1, people + 1) if (people, size) not in FEW]
        self.same(many, [(12, 5), (12, 6), (12, 7)])
        for people, size in many:
            for call in OF_ALL:
                self.raises(TooMany, {"what": "teams", "most": 500}, call, people, size)
                self.raises(TooMany, {"what": "teams", "most": 500}, call, size=size, people=people)
        self.same([all_teams(12, 4).many, all_teams(12, 8).many, all_teams(11, 5).many], [495, 495, 462])

    def test_need_and_most(self):
        for people, size in FEW:
            with self.subTest(people=people, size=size):
                some = all_teams(people, size)
                if people >= 2 * size - 1:
                    self.same([most_waves(some), need(some)], [2 * size - 2, people - 2 * size + 2])
                else:
                    self.same([most_waves(some), need(some)], [people, 0])


class SpreadTeams(Case):
    def test_all_people_and_sizes(self):
        for people in range(1, 13):
            for size in range(1, (people + 1) // 2 + 1):
                with self.subTest(people=people, size=size):
                    wanted = tuple(team for team in lots_by_hand(people, size) if is_spread_by_hand(team))
                    for got in (spread_teams(people, size), spread_teams(size=size, people=people)):
                        self.same([type(got), got.people, got.teams, got.many], [Teams, people, wanted, math.comb(people - size + 1, size)])

    def test_need_and_most(self):
        for people in range(1, 13):
            for size in range(1, (people + 1) // 2 + 1):
                some = spread_teams(people, size)
                self.same([most_waves(some), need(some)], [2 * size - 2, people - 2 * size + 2])

    def test_sizes_of_which_there_are_none(self):
        for people in range(1, 13):
            self.raises(BadNumber, {"part": "size"}, spread_teams, people, (people + 1) // 2 + 1)
            self.raises(BadNumber, {"part": "size"}, spread_teams, size=people + 1, people=people)


class PlainFilling(Case):
    def test_the_room_of_each_team_by_its_least_person(self):
        for people, size in FEW:
            with self.subTest(people=people, size=size):
                last = max(people - 2 * size + 2, 1)
                wanted = tuple(min(min(team) + 1, last) for team in lots_by_hand(people, size))
                for got in (plain_filling(people, size), plain_filling(size=size, people=people)):
                    self.same([type(got), got.rooms, got.teams == all_teams(people, size)], [Filling, wanted, True])
                self.same(sorted(set(wanted)), list(range(1, last + 1)))

    def test_no_two_teams_apart_share_a_room(self):
        for people, size in FEW:
            filling = plain_filling(people, size)
            self.same(clash_pairs(filling), ())
            rooms = {}
            for team, room in zip(filling.teams.teams, filling.rooms):
                rooms.setdefault(room, []).append(set(team))
            for told in rooms.values():
                self.assertTrue(all(one & other for one, other in itertools.combinations(told, 2)))


class Wrong(Case):
    def test_people(self):
        for value in NO_INTEGERS + (0, 13, -1, 10**99, -10**99):
            with self.subTest(value=value):
                for call in OF_SIZES:
                    self.raises(BadNumber, {"part": "people"}, call, value, 1)
                    # People come first, whatever the size.
                    self.raises(BadNumber, {"part": "people"}, call, value, value)
                    self.raises(BadNumber, {"part": "people"}, call, size=None, people=value)

    def test_sizes(self):
        for value in NO_INTEGERS + (0, -1, 10**99, -10**99, 13):
            with self.subTest(value=value):
                for call in OF_SIZES:
                    for people in (1, 3, 12):
                        self.raises(BadNumber, {"part": "size"}, call, people, value)
                        self.raises(BadNumber, {"part": "size"}, call, size=value, people=people)
        for people in range(1, 13):
            for call in OF_SIZES:
                self.raises(BadNumber, {"part": "size"}, call, people, people + 1)


if __name__ == "__main__":
    unittest.main()
