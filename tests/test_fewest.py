"""roomstair.fewest: the fewest rooms of some teams, a filling with so many."""

import itertools
import unittest

from cases import Case, numbers, some_teams
from roomstair import errors, fewest, fillings, lots, orders, teams, waves
from roomstair.errors import BadTeams, TooMany
from roomstair.fewest import fewest_filling, fewest_rooms
from roomstair.fillings import Filling, clash_pairs
from roomstair.lots import all_teams, spread_teams
from roomstair.orders import best_order, in_order
from roomstair.teams import Teams
from roomstair.waves import need
from test_teams import LOTS, NO_TEAMS

FIVE = Teams(5, [(0, 1), (1, 2), (2, 3), (3, 4), (0, 4)])
OF_TEAMS = (fewest_rooms, fewest_filling)


def all_parts(things):
    """All ways to put things into groups, as lists of lists."""
    if not things:
        yield []
        return
    for groups in all_parts(things[1:]):
        for at, group in enumerate(groups):
            yield groups[:at] + [[things[0]] + group] + groups[at + 1:]
        yield [[things[0]]] + groups


def fewest_by_hand(some):
    """The fewest groups of teams of which any two of one group meet, by trial of all ways."""
    meeting = [groups for groups in all_parts(list(some.teams))
               if all(set(one) & set(other) for group in groups for one, other in itertools.combinations(group, 2))]
    return min(map(len, meeting))


def exactly(people, many, source):
    """Teams of just so many lots of people."""
    lots_left = [lot for lot in range(1, 2**people)]
    chosen = [lots_left.pop(next(source) % len(lots_left)) for _ in range(many)]
    return Teams(people, [[person for person in range(people) if lot >> person & 1] for lot in chosen])


class Examples(Case):
    def test_the_examples(self):
        self.examples("""
>>> five = Teams(5, [(0, 1), (1, 2), (2, 3), (3, 4), (0, 4)])
>>> [need(five), best_order(five), fewest_rooms(five), fewest_rooms(all_teams(5, 2)), fewest_rooms(teams=spread_teams(7, 3))]
[1, ((0, 2, 4, 1, 3), 2), 3, 3, 3]
>>> [clash_pairs(fewest_filling(five)), max(fewest_filling(five).rooms), fewest_rooms(Teams(3, [(0, 1), (1, 2)])), fewest_filling(Teams(1, [(0,)])).rooms]
[(), 3, 1, (1,)]
>>> fewest_rooms(all_teams(6, 2))
raises TooMany('teams', 14)
>>> fewest_filling([(0, 1)])
raises BadTeams('teams')
""", {**vars(errors), **vars(teams), **vars(waves), **vars(orders), **vars(fillings), **vars(lots), **vars(fewest)})


class Fewest(Case):
    def look_at(self, some, wanted):
        """See that some teams have these fewest rooms, and a filling with so many."""
        self.same([fewest_rooms(some), fewest_rooms(teams=some)], [wanted, wanted])
        for filling in (fewest_filling(some), fewest_filling(teams=some)):
            self.same([type(filling), filling.teams == some, clash_pairs(filling)], [Filling, True, ()])
            self.same(sorted(set(filling.rooms)), list(range(1, wanted + 1)))

    def test_all_ways_of_few_teams(self):
        source = numbers(111)
        found = set()
        for people in (1, 2, 3, 4, 5, 8, 12):
            for many in (1, 2, 3, 4, 5, 6, 7):
                if many < 2**people:
                    for some in (exactly(people, many, source), some_teams(people, many - 1, source)):
                        wanted = fewest_by_hand(some)
                        self.look_at(some, wanted)
                        found.add(wanted)
        for some in (all_teams(4, 2), all_teams(3, 2), all_teams(7, 1), spread_teams(5, 2), FIVE):
            self.look_at(some, fewest_by_hand(some))
        self.assertTrue({1, 2, 3} <= found)

    def test_pairs_of_people(self):
        source = numbers(112)
        pairs = list(itertools.combinations(range(8), 2))
        for _ in range(20):
            some = Teams(8, sorted({pairs[next(source) % len(pairs)] for _ in range(8)}))
            self.look_at(some, fewest_by_hand(some))

    def test_one_and_two_teams(self):
        self.look_at(Teams(1, [[0]]), 1)
        self.look_at(Teams(12, [[11]]), 1)
        self.look_at(Teams(2, [[0], [1]]), 2)
        self.look_at(Teams(2, [[0], [0, 1]]), 1)
        self.look_at(Teams(12, [list(range(6)), list(range(6, 12))]), 2)

    def test_teams_that_all_meet_and_that_are_all_apart(self):
        for many in range(1, 15):
            self.look_at(Teams(12, [[11, *lot] for lot in LOTS if 11 not in lot][:many]), 1)
        for many in range(1, 13):
            self.look_at(Teams(12, [[person] for person in range(many)]), many)

    def test_fourteen_teams(self):
        # Twelve teams of one are all apart, and the others meet all or but one of these.
        alone = [[person] for person in range(12)]
        self.look_at(Teams(12, alone + [list(range(12)), list(range(11))]), 12)
        # No three of these pairs are a triangle: so those of one room have a person in common. The six even people are in
        # each pair but (3, 9).
        ring = [(person, (person + 1) % 12) for person in range(12)]
        self.look_at(Teams(12, ring + [(0, 6), (2, 8)]), 6)
        self.look_at(Teams(12, ring + [(0, 6), (3, 9)]), 7)
        source = numbers(113)
        for people in (4, 5, 6, 8, 12):
            for _ in range(4):
                some = exactly(people, 14, source)
                got = fewest_rooms(some)
                self.look_at(some, got)
                # With a team less the fewest rooms are as many, or one less.
                for at in range(14):
                    fewer = Teams(people, some.teams[:at] + some.teams[at + 1:])
                    self.assertIn(fewest_rooms(fewer), (got, got - 1))

    def test_all_teams_of_one_size(self):
        for people in range(1, 13):
            for size in range(1, people + 1):
                for call in (all_teams, spread_teams):
                    if call is spread_teams and size > (people + 1) // 2:
                        continue
                    if size not in (5, 6, 7) and call(people, size).many <= 14:
                        self.look_at(call(people, size), max(people - 2 * size + 2, 1))

    def test_need_is_never_above(self):
        source = numbers(114)
        less = 0
        for some in [FIVE] + [some_teams(people, 8, source) for people in (2, 3, 4, 5) for _ in range(3)]:
            rooms = fewest_rooms(some)
            needs = [need(in_order(some, order)) for order in itertools.permutations(range(some.people))]
            self.assertLessEqual(max(needs), rooms)
            self.same(max(needs), best_order(some)[1])
            less += max(needs) < rooms
        self.assertGreater(less, 0)

    def test_a_call_made_again_returns_an_equal_filling(self):
        source = numbers(115)
        for people in (3, 5, 12):
            some = some_teams(people, 13, source)
            again = Teams(people, [list(team)[::-1] for team in some.teams][::-1])
            first = fewest_filling(some)
            self.same([fewest_filling(some) == first, fewest_filling(again) == first, fewest_filling(again).rooms], [True, True, first.rooms])


class Wrong(Case):
    def test_what_is_no_teams(self):
        for value in NO_TEAMS:
            for call in OF_TEAMS:
                with self.subTest(call=call, value=value):
                    self.raises(BadTeams, {"part": "teams"}, call, value)
                    self.raises(BadTeams, {"part": "teams"}, call, teams=value)

    def test_fifteen_teams(self):
        for some in (all_teams(6, 2), all_teams(12, 4), Teams(12, LOTS[:15]), Teams(4, [[p for p in range(4) if lot >> p & 1] for lot in range(1, 16)])):
            self.assertGreaterEqual(some.many, 15)
            for call in OF_TEAMS:
                self.raises(TooMany, {"what": "teams", "most": 14}, call, some)
                self.raises(TooMany, {"what": "teams", "most": 14}, call, teams=some)
        self.same(fewest_rooms(Teams(12, LOTS[:14])), 4)


if __name__ == "__main__":
    unittest.main()
