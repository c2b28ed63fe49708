"""roomstair.changes: opposite, permuted and flipped tables; teams with one more or less, joined ones."""

import itertools
import unittest

from cases import NO_INTEGERS, NO_LISTS, Case, numbers, opposite_by_hand, some_teams
from roomstair import changes, errors, tables, teams, waves
from roomstair.changes import flipped, joined, opposite_table, permuted, with_person, with_team, without_team
from roomstair.chains import opposite_chain
from roomstair.climbs import climbs, how_many
from roomstair.errors import BadNumber, BadOrder, BadTable, BadTeams, Misfit, TooMany, Twice
from roomstair.rows import rows_of
from roomstair.tables import Table, label_of, opposed_pair, place_table, size_table, wave_table
from roomstair.teams import Teams
from roomstair.waves import most_waves, need
from test_tables import NO_LABELLINGS, SHUT, TWO, any_table
from test_teams import LOTS, NO_TEAMS, WRONG_TEAMS
from test_walks import unopposed_table

OF_TABLES = ((opposite_table, ()), (permuted, ([0, 1],)), (flipped, (0,)))
OF_TEAMS = ((with_team, ([0],)), (without_team, ([0],)), (with_person, ()))
FULL = Teams(12, LOTS[:500])


def some_tables(source):
    """Tables of 1 to 6 places."""
    found = [Table(1, [7]), Table(1, [-1000]), TWO]
    for places in (1, 2, 3, 4, 5, 6):
        found += [any_table(places, most, source) for most in (2, 1000)] + [wave_table(places), place_table(places), size_table(places)]
    return found


def some_orders(places, source):
    """Orders of so many places, all of them if they are few."""
    if places < 4:
        return list(itertools.permutations(range(places)))
    return [sorted(range(places), key=lambda each: next(source)) for _ in range(5)] + [tuple(range(places))[::-1]]


def permuted_by_hand(row, order):
    """The row that has at place order[i] the sign that this row has at place i."""
    found = [None] * len(row)
    for at, place in enumerate(order):
        found[place] = row[at]
    return "".join(found)


def flipped_by_hand(row, place):
    """The row with + and - exchanged at a place."""
    return row[:place] + row[place].translate({43: "-", 45: "+"}) + row[place + 1:]


class Examples(Case):
    def test_the_examples(self):
        self.examples("""
>>> table = Table(2, [-2, 5, 1, 3])
>>> [opposite_table(table).labels, permuted(table, [1, 0]).labels, flipped(table, 0).labels, flipped(table=table, place=1).labels]
[(2, -5, -1, -3), (-2, -5, 3, 1), (-5, 2, -1, 3), (5, -2, 1, -3)]
>>> [label_of(permuted(place_table(3), [1, 2, 0]), row) for row in ("+00", "0+0", "00-")]
[2, 3, -1]
>>> [permuted(table, [0, 1]) == table, opposite_table(opposite_table(table)) == table, flipped(flipped(table, 1), 1) == table]
[True, True, True]
>>> duo = Teams(2, [(0,), (1,)])
>>> [str(with_team(duo, [1, 0])), str(without_team(duo, [0])), with_person(duo).people, [need(duo), need(with_person(duo)), need(joined(duo, duo))]]
['2 / 0 / 0 1 / 1', '2 / 1', 3, [2, 2, 4]]
>>> [joined(duo, with_team(duo, (0, 1))).teams, need(with_team(duo, (0, 1)))]
[((0,), (1,), (2,), (2, 3), (3,)), 2]
>>> permuted(table, [0, 0])
raises BadOrder('order')
>>> with_team(duo, [1])
raises Twice([1])
>>> without_team(without_team(duo, [0]), [1])
raises Misfit('team')
""", {**vars(errors), **vars(tables), **vars(teams), **vars(waves), **vars(changes)})


class Tables(Case):
    def look_at(self, table, got, moved):
        """See that a changed table gives each row the label that the elder one gives to the moved row."""
        self.same([type(got), got.places], [Table, table.places])
        for row in rows_of(table.places):
            self.same(label_of(got, row), label_of(table, moved(row)))

    def test_opposite_tables(self):
        for table in some_tables(numbers(141)):
            got = opposite_table(table)
            self.look_at(table, got, opposite_by_hand)
            self.same([got.labels, opposite_table(table=table) == got, opposite_table(got) == table],
                      [tuple(-label for label in table.labels), True, True])

    def test_permuted_tables(self):
        source = numbers(142)
        for table in some_tables(source):
            for order in some_orders(table.places, source):
                got = permuted(table, order)
                self.look_at(table, got, lambda row: permuted_by_hand(row, order))
                self.same(permuted(order=list(order), table=table) == got, True)
                back = [list(order).index(place) for place in range(table.places)]
                self.same([permuted(got, back) == table, permuted(table, list(range(table.places))) == table], [True, True])

    def test_flipped_tables(self):
        for table in some_tables(numbers(143)):
            for place in range(table.places):
                got = flipped(table, place)
                self.look_at(table, got, lambda row: flipped_by_hand(row, place))
                self.same([flipped(place=place, table=table) == got, flipped(got, place) == table], [True, True])

    def test_flipped_at_all_places_is_opposite(self):
        for table in some_tables(numbers(144)):
            got = table
            for place in range(table.places):
                got = flipped(got, place)
            self.same(got == opposite_table(table), True)

    def test_as_many_climbs_and_opposed_rows(self):
        source = numbers(145)
        found = set()
        for places in (1, 2, 3, 4):
            for table in (any_table(places, places + 1, source), unopposed_table(places, places + 1, source), unopposed_table(places, places, source)):
                many = how_many(table)
                found.add(many)
                order, place = some_orders(places, source)[1 % places], next(source) % places
                for got in (opposite_table(table), permuted(table, order), flipped(table, place)):
                    self.same([how_many(got), opposed_pair(got) is None], [many, opposed_pair(table) is None])
                self.same(climbs(opposite_table(table)), tuple(sorted(opposite_chain(climb) for climb in climbs(table))))
        self.assertGreater(len(found), 2)

    def test_the_table_is_not_changed(self):
        table, order = Table(2, [1, 2, 3, 4]), [1, 0]
        for got in (opposite_table(table), permuted(table, order), flipped(table, 1)):
            self.same(got == table, False)
        self.same([table.labels, order], [(1, 2, 3, 4), [1, 0]])

    def test_no_table(self):
        for value in NO_LABELLINGS + (SHUT,):
            with self.subTest(value=value):
                for call, rest in OF_TABLES:
                    self.raises(BadTable, {"part": "table"}, call, value, *rest)
                    self.raises(BadTable, {"part": "table"}, call, value, *[None] * len(rest))
                self.raises(BadTable, {"part": "table"}, opposite_table, table=value)
                self.raises(BadTable, {"part": "table"}, permuted, order=[0], table=value)
                self.raises(BadTable, {"part": "table"}, flipped, place=0, table=value)

    def test_no_order(self):
        for value in NO_LISTS + ([], (), [0], [1], [0, 0], [1, 1], [0, 1, 2], [0, 2], [1, 2], [-1, 0], [0, True], [False, 1], [0, 1.0], ["0", "1"], "01", [[0, 1]],
                                 [0, None], [0, 10**99], [0, 1, 0], {0: 1, 1: 0}, {0, 1}):
            with self.subTest(value=value):
                self.raises(BadOrder, {"part": "order"}, permuted, TWO, value)
                self.raises(BadOrder, {"part": "order"}, permuted, order=value, table=TWO)

    def test_no_place(self):
        for value in NO_INTEGERS + (2, -1, -2, 6, 10**99, -10**99):
            with self.subTest(value=value):
                self.raises(BadNumber, {"part": "place"}, flipped, TWO, value)
                self.raises(BadNumber, {"part": "place"}, flipped, place=value, table=TWO)
        for places in range(1, 7):
            self.raises(BadNumber, {"part": "place"}, flipped, wave_table(places), places)


class WithTeam(Case):
    def test_each_team_that_is_not_there(self):
        source = numbers(146)
        for people in (1, 2, 3, 4):
            for many in (1, 3, 6):
                some = some_teams(people, many, source)
                for size in range(1, people + 1):
                    for team in itertools.permutations(range(people), size):
                        known = tuple(sorted(team))
                        if known in some.teams:
                            for given in (team, list(team)):
                                self.raises(Twice, {"value": given}, with_team, some, given)
                                self.raises(Twice, {"value": given}, with_team, team=given, teams=some)
                            continue
                        for got in (with_team(some, team), with_team(team=list(team), teams=some)):
                            self.same([type(got), got.people, got.teams, got.many], [Teams, people, tuple(sorted(some.teams + (known,))), some.many + 1])
                            self.same([without_team(got, team) == some, most_waves(got) <= most_waves(some), need(got) >= need(some)], [True] * 3)

    def test_a_team_that_has_another_one_within_it_changes_neither_most_nor_need(self):
        some = Teams(4, [(0, 1), (1, 2), (2, 3)])
        for team in ((0, 1, 3), (0, 1, 2, 3), (1, 2, 3)):
            self.same([most_waves(with_team(some, team)), need(with_team(some, team))], [most_waves(some), need(some)])

    def test_the_value_is_kept_as_it_was_passed(self):
        given = [1, 0]
        with self.assertRaises(Twice) as caught:
            with_team(Teams(2, [(0, 1)]), given)
        self.assertIs(caught.exception.value, given)
        self.assertEqual(given, [1, 0])

    def test_five_hundred_teams(self):
        for team in (LOTS[500], LOTS[500][::-1], [11], tuple(range(12))):
            self.raises(TooMany, {"what": "teams", "most": 500}, with_team, FULL, team)
            self.raises(TooMany, {"what": "teams", "most": 500}, with_team, team=team, teams=FULL)
        # A team that is there comes first.
        self.raises(Twice, {"value": LOTS[499]}, with_team, FULL, LOTS[499])
        fewer = without_team(FULL, LOTS[7])
        self.same([fewer.many, with_team(fewer, LOTS[7]) == FULL, with_team(fewer, [11]).many], [499, True, 500])

    def test_errors_in_their_order(self):
        for call in (with_team, without_team):
            for value in NO_TEAMS:
                with self.subTest(call=call, value=value):
                    self.raises(BadTeams, {"part": "teams"}, call, value, None)
                    self.raises(BadTeams, {"part": "teams"}, call, team=[0], teams=value)
            for value in WRONG_TEAMS + ([2], [0, 2], [0, 1, 2], [0, 1, 1], [1, -1]):
                with self.subTest(call=call, value=value):
                    for some in (Teams(2, [[0]]), Teams(2, [[0], [1], [0, 1]])):
                        self.raises(BadTeams, {"part": "team"}, call, some, value)
                        self.raises(BadTeams, {"part": "team"}, call, team=value, teams=some)
            for value in WRONG_TEAMS + ([12], list(range(13))):
                self.raises(BadTeams, {"part": "team"}, call, FULL, value)


class WithoutTeam(Case):
    def test_each_team(self):
        source = numbers(147)
        for people in (1, 2, 3, 4, 12):
            for many in (1, 3, 9):
                some = some_teams(people, many, source)
                for at, team in enumerate(some.teams):
                    if some.many == 1:
                        self.raises(Misfit, {"part": "team"}, without_team, some, team)
                        continue
                    for got in (without_team(some, team), without_team(team=list(team)[::-1], teams=some)):
                        self.same([type(got), got.people, got.teams], [Teams, people, some.teams[:at] + some.teams[at + 1:]])
                        self.same([with_team(got, team) == some, most_waves(got) >= most_waves(some)], [True, True])

    def test_a_team_that_is_not_there_or_is_the_only_one(self):
        some, only = Teams(3, [(0, 1), (2,)]), Teams(3, [(0, 1)])
        for team in ([0], (1,), [0, 2], [2, 1, 0], (1, 2)):
            for each in (some, only):
                self.raises(Misfit, {"part": "team"}, without_team, each, team)
                self.raises(Misfit, {"part": "team"}, without_team, team=team, teams=each)
        for team in ([0, 1], (1, 0)):
            self.raises(Misfit, {"part": "team"}, without_team, only, team)
        self.raises(Misfit, {"part": "team"}, without_team, FULL, LOTS[500])


class WithPerson(Case):
    def test_one_to_eleven_people(self):
        source = numbers(148)
        for people in range(1, 12):
            some = some_teams(people, 5, source)
            for got in (with_person(some), with_person(teams=some)):
                self.same([type(got), got.people, got.teams], [Teams, people + 1, some.teams])
                self.same([most_waves(got), need(got)], [most_waves(some) + 1, need(some)])

    def test_twelve_people(self):
        for some in (FULL, Teams(12, [[0]])):
            self.raises(TooMany, {"what": "people", "most": 12}, with_person, some)
            self.raises(TooMany, {"what": "people", "most": 12}, with_person, teams=some)

    def test_no_teams(self):
        for value in NO_TEAMS:
            with self.subTest(value=value):
                self.raises(BadTeams, {"part": "teams"}, with_person, value)
                self.raises(BadTeams, {"part": "teams"}, with_person, teams=value)


class Joined(Case):
    def test_any_two(self):
        source = numbers(149)
        found = [some_teams(people, many, source) for people in (1, 2, 3, 5, 6) for many in (1, 4)]
        for one, other in itertools.product(found, repeat=2):
            wanted = sorted(list(one.teams) + [tuple(person + one.people for person in team) for team in other.teams])
            for got in (joined(one, other), joined(other=other, one=one)):
                self.same([type(got), got.people, got.teams], [Teams, one.people + other.people, tuple(wanted)])
            self.same([most_waves(got), need(got)], [most_waves(one) + most_waves(other), need(one) + need(other)])

    def test_too_many_people_come_first(self):
        people = [Teams(many, [[0]]) for many in range(1, 13)]
        for one, other in itertools.product(people, repeat=2):
            if one.people + other.people > 12:
                self.raises(TooMany, {"what": "people", "most": 12}, joined, one, other)
                self.raises(TooMany, {"what": "people", "most": 12}, joined, other=other, one=one)
            else:
                self.same(joined(one, other).teams, ((0,), (one.people,)))
        self.raises(TooMany, {"what": "people", "most": 12}, joined, FULL, FULL)

    def test_too_many_teams(self):
        lots = [[person for person in range(9) if lot >> person & 1] for lot in range(1, 501)]
        nine = Teams(9, lots)
        for one, other in ((nine, Teams(3, [[0]])), (Teams(1, [[0]]), nine), (Teams(9, lots[:499]), Teams(3, [[0], [1]]))):
            self.raises(TooMany, {"what": "teams", "most": 500}, joined, one, other)
            self.raises(TooMany, {"what": "teams", "most": 500}, joined, other=other, one=one)
        self.same([joined(Teams(9, lots[:499]), Teams(3, [[2]])).many, joined(Teams(9, lots[:499]), Teams(3, [[2]])).teams[-1]], [500, (11,)])
        self.raises(TooMany, {"what": "people", "most": 12}, joined, nine, Teams(4, [[0]]))

    def test_no_teams(self):
        some = Teams(2, [[0]])
        for value in NO_TEAMS:
            with self.subTest(value=value):
                self.raises(BadTeams, {"part": "one"}, joined, value, None)
                self.raises(BadTeams, {"part": "one"}, joined, value, value)
                self.raises(BadTeams, {"part": "one"}, joined, other=some, one=value)
                self.raises(BadTeams, {"part": "other"}, joined, some, value)
                self.raises(BadTeams, {"part": "other"}, joined, other=value, one=FULL)


if __name__ == "__main__":
    unittest.main()
