"""What labellings need of roomstair.teams, roomstair.waves and roomstair.fillings."""

import unittest

from cases import NO_INTEGERS, NO_LISTS, Case, numbers, opposite_by_hand
from roomstair import errors, fillings, tables, teams
from roomstair.chains import full_chains
from roomstair.errors import BadFilling, BadNumber, BadTeams
from roomstair.fillings import Filling
from roomstair.rows import first_sign, is_below, rows_of, waves
from roomstair.tables import Table, label_of
from roomstair.teams import Teams
from roomstair.turns import clashes
from roomstair.waves import most_waves

ALL_OF_FOUR = [(2, 3), (0, 1), (0, 2), (0, 3), (1, 2), (1, 3)]


def some_teams(people, many, source):
    """Teams of up to so many lots of people."""
    lots = [[person for person in range(people) if next(source) % 5 < 2] for _ in range(many)]
    return Teams(people, sorted({tuple(lot) for lot in lots if lot} | {tuple(range(people))}))


def holds(row, sign, team):
    """Whether a side of a row holds a team."""
    return all(row[person] == sign for person in team)


def is_free_by_hand(some, row):
    """Whether neither side of a row holds a team."""
    return not any(holds(row, sign, team) for team in some.teams for sign in "+-")


def most_by_hand(some):
    """The greatest number of waves of a free row, worked out of all rows."""
    return max([waves(row) for row in rows_of(some.people) if is_free_by_hand(some, row)], default=0)


def label_by_hand(filling, row):
    """The label of a row by a filling, as the document tells it."""
    some = filling.teams
    if is_free_by_hand(some, row):
        return waves(row) if first_sign(row) == "+" else -waves(row)
    sides = {sign: [room for team, room in zip(some.teams, filling.rooms) if holds(row, sign, team)] for sign in "+-"}
    greatest = max(sides["+"] + sides["-"])
    if greatest in sides["+"] and greatest in sides["-"]:
        return None
    return most_by_hand(some) + greatest if greatest in sides["+"] else -most_by_hand(some) - greatest


class Most(Case):
    def test_some_told_outright(self):
        some = [Teams(4, ALL_OF_FOUR), Teams(3, [(0, 1), (0, 2)]), Teams(2, [(0,), (1,)]), Teams(2, [(0, 1)])]
        self.same([most_waves(each) for each in some], [2, 2, 0, 2])
        self.same(most_waves(teams=Teams(5, [(0, 1), (1, 2), (2, 3), (3, 4), (0, 4)])), 4)

    def test_any_teams(self):
        source = numbers(9)
        found = set()
        for people in (1, 2, 3, 4, 5):
            for many in (1, 2, 4, 8, 12):
                some = some_teams(people, many, source)
                found.add(most_waves(some))
                self.same(most_waves(some), most_by_hand(some))
        self.assertGreater(len(found), 3)

    def test_many_teams_of_twelve_people(self):
        lots = [[person for person in range(12) if lot >> person & 1] for lot in range(4095, 3595, -1)]
        self.same(most_waves(Teams(12, lots)), 12)
        self.same(most_waves(Teams(12, [[person] for person in range(12)])), 0)
        self.same(most_waves(Teams(12, [[person] for person in range(11)])), 1)

    def test_no_teams(self):
        for value in NO_LISTS + ([], [[0]], (), (2, [[0]]), Teams):
            with self.subTest(value=value):
                self.raises(BadTeams, {"part": "teams"}, most_waves, value)
                self.raises(BadTeams, {"part": "teams"}, most_waves, teams=value)


class Labels(Case):
    def test_examples_that_need_no_texts(self):
        self.examples("""
>>> four = Teams(4, [(2, 3), (0, 1), (0, 2), (0, 3), (1, 2), (1, 3)])
>>> two, one = Filling(four, [1, 1, 1, 2, 2, 2]), Filling(rooms=(1, 1, 1, 2, 2, 1), teams=four)
>>> [two.rooms, two == one, two.teams == four]
[(1, 1, 1, 2, 2, 2), False, True]
>>> [[label_of(two, row) for row in ("+000", "++00", "++--", "+-+-", "+-00", "-0--")], label_of(one, "++--"), labels_of(one, ["+000", "++00", "++--"])]
[[1, 3, -4, -4, 2, -4], None, (1, 3, None)]
>>> Filling(four, [1, 2, 3])
raises BadFilling('rooms')
>>> Filling([(0, 1)], [1])
raises BadTeams('teams')
""", {**vars(errors), **vars(teams), **vars(tables), **vars(fillings)})

    def test_all_labels_of_any_fillings(self):
        source = numbers(10)
        lacking = 0
        for people in (1, 2, 3, 4):
            for most in (1, 2, 3, 500):
                some = some_teams(people, 6, source)
                filling = Filling(some, [next(source) % most + 1 for _ in range(some.many)])
                for row in rows_of(people):
                    wanted = label_by_hand(filling, row)
                    turned = label_of(filling, opposite_by_hand(row))
                    self.same(label_of(filling, row), wanted)
                    self.same(turned, None if wanted is None else -wanted)
                    lacking += wanted is None
        self.assertGreater(lacking, 5)

    def test_no_rows_are_opposed(self):
        filling = Filling(Teams(4, ALL_OF_FOUR), [3, 1, 2, 2, 1, 3])
        for one in rows_of(4):
            for other in rows_of(4):
                told = label_of(filling, one), label_of(filling, other)
                if is_below(one, other) and None not in told:
                    self.assertNotEqual(told[0], -told[1])
        for chain in full_chains(4):
            self.same(clashes(filling, chain), None in [label_of(filling, row) for row in chain])

    def test_the_greatest_room_and_most_places(self):
        filling = Filling(Teams(12, [[person, 11] for person in range(11)]), [500] * 11)
        # Most is 11: all people but the last one, by turns.
        self.same([label_of(filling, "+" * 12), label_of(filling, "-" * 12), label_of(filling, "+-" * 6)], [511, -511, -511])
        self.same([label_of(filling, "+-" * 5 + "+0"), label_of(filling, "0-" * 5 + "+-")], [11, -511])


class Made(Case):
    def test_no_teams_come_first(self):
        for value in NO_LISTS + ([], [[0]], (), (2, [[0]]), Table(1, [1])):
            with self.subTest(value=value):
                self.raises(BadTeams, {"part": "teams"}, Filling, value, None)
                self.raises(BadTeams, {"part": "teams"}, Filling, rooms=[1], teams=value)

    def test_wrong_rooms(self):
        some = Teams(2, [[0], [1]])
        for value in NO_LISTS + ([], (), [1], [1, 2, 3], [[1, 2]]):
            with self.subTest(value=value):
                self.raises(BadFilling, {"part": "rooms"}, Filling, some, value)
                self.raises(BadFilling, {"part": "rooms"}, Filling, rooms=value, teams=some)
        for room in NO_INTEGERS + (0, 501, -1, 10**99, -10**99):
            with self.subTest(room=room):
                self.raises(BadFilling, {"part": "rooms"}, Filling, some, [1, room])
        self.same(Filling(some, (1, 500)).rooms, (1, 500))

    def test_rooms_are_copied(self):
        rooms = [1, 2]
        filling = Filling(Teams(2, [[1], [0]]), rooms)
        rooms[0] = 9
        self.same([filling.rooms, filling.teams.teams, label_of(filling, "+0")], [(1, 2), ((0,), (1,)), 1])

    def test_equal_if_teams_and_rooms_are(self):
        some = Teams(2, [[0], [1]])
        self.same([Filling(some, [1, 2]) == Filling(Teams(2, [[1], [0]]), (1, 2)), Filling(some, [1, 2]) == Filling(some, [2, 1]),
                   Filling(some, [1, 2]) == Filling(Teams(2, [[0], [0, 1]]), [1, 2])], [True, False, False])
        for value in (None, some, [1, 2], (some, (1, 2)), Table(1, [1])):
            self.same([Filling(some, [1, 2]) == value, value == Filling(some, [1, 2])], [False, False])


if __name__ == "__main__":
    unittest.main()
