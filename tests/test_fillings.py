"""roomstair.fillings: Fillings, their texts, their labels, their clashes."""

import unittest

from cases import NO_INTEGERS, NO_LISTS, NO_STRINGS, Case, numbers, opposite_by_hand, some_teams
from roomstair import errors, fillings, tables, teams
from roomstair.chains import full_chains
from roomstair.errors import BadFilling, BadTeams, BadText
from roomstair.fillings import Filling, clash_pairs
from roomstair.rows import first_sign, is_below, rows_of, waves
from roomstair.tables import Table, label_of
from roomstair.teams import Teams
from roomstair.turns import clashes
from roomstair.waves import most_waves
from test_teams import changed_texts, wrong_item

ALL_OF_FOUR = [(2, 3), (0, 1), (0, 2), (0, 3), (1, 2), (1, 3)]


def holds(row, sign, team):
    """Whether a side of a row holds a team."""
    return all(row[person] == sign for person in team)


def is_free_by_hand(some, row):
    """Whether neither side of a row holds a team."""
    return not any(holds(row, sign, team) for team in some.teams for sign in "+-")


def most_by_hand(some):
    """The greatest number of waves of a free row, worked out of all rows; of many people by the program."""
    if some.people > 6:
        return most_waves(some)
    return max([waves(row) for row in rows_of(some.people) if is_free_by_hand(some, row)], default=0)


def label_by_hand(filling, row):
    """The label of a row by a filling, as the document tells it."""
    some = filling.teams
    if is_free_by_hand(some, row):
        return waves(row) if first_sign(row) == "+" else -waves(row)
    sides = {sign: [room for team, room in zip(some.teams, filling.rooms) if holds(row, sign, team)] for sign in "+-"}
    greatest = max(sides["+"] + sides["-"])
    if greatest in sides["+"] and greatest in sides["-"]:
        return None
    return most_by_hand(some) + greatest if greatest in sides["+"] else -most_by_hand(some) - greatest


class Labels(Case):
    def test_the_examples(self):
        self.examples("""
>>> four = Teams(4, [(2, 3), (0, 1), (0, 2), (0, 3), (1, 2), (1, 3)])
>>> two, one = Filling(four, [1, 1, 1, 2, 2, 2]), Filling(rooms=(1, 1, 1, 2, 2, 1), teams=four)
>>> [two.rooms, str(two), Filling.read(str(two)) == two, two == one, two.teams == four, clash_pairs(two), clash_pairs(one)]
[(1, 1, 1, 2, 2, 2), '4 / 1 0 1 / 1 0 2 / 1 0 3 / 2 1 2 / 2 1 3 / 2 2 3', True, False, True, (), ((0, 5),)]
>>> [[label_of(two, row) for row in ("+000", "++00", "++--", "+-+-", "+-00", "-0--")], label_of(one, "++--"), labels_of(one, ["+000", "++00", "++--"])]
[[1, 3, -4, -4, 2, -4], None, (1, 3, None)]
>>> Filling(four, [1, 2, 3])
raises BadFilling('rooms')
>>> Filling([(0, 1)], [1])
raises BadTeams('teams')
>>> Filling.read("2 / 1 0 / 501 1")
raises BadText(0, 5)
>>> Filling.read("2 / 1 0 / 2")
raises BadText(0, 6)
""", {**vars(errors), **vars(teams), **vars(tables), **vars(fillings)})

    def test_all_labels_of_any_fillings(self):
        source = numbers(10)
        lacking = 0
        for people in (1, 2, 3, 4):
            for most in (1, 2, 3, 500):
                some = some_teams(people, 6, source)
                filling = Filling(some, [next(source) % most + 1 for _ in range(some.many)])
                for row in rows_of(people):
                    wanted = label_by_hand(filling, row)
                    turned = label_of(filling, opposite_by_hand(row))
                    self.same(label_of(filling, row), wanted)
                    self.same(turned, None if wanted is None else -wanted)
                    lacking += wanted is None
        self.assertGreater(lacking, 5)

    def test_no_rows_are_opposed(self):
        filling = Filling(Teams(4, ALL_OF_FOUR), [3, 1, 2, 2, 1, 3])
        for one in rows_of(4):
            for other in rows_of(4):
                told = label_of(filling, one), label_of(filling, other)
                if is_below(one, other) and None not in told:
                    self.assertNotEqual(told[0], -told[1])
        for chain in full_chains(4):
            self.same(clashes(filling, chain), None in [label_of(filling, row) for row in chain])

    def test_the_greatest_room_and_most_places(self):
        filling = Filling(Teams(12, [[person, 11] for person in range(11)]), [500] * 11)
        # Most is 11: all people but the last one, by turns.
        self.same([label_of(filling, "+" * 12), label_of(filling, "-" * 12), label_of(filling, "+-" * 6)], [511, -511, -511])
        self.same([label_of(filling, "+-" * 5 + "+0"), label_of(filling, "0-" * 5 + "+-")], [11, -511])


class Made(Case):
    def test_no_teams_come_first(self):
        for value in NO_LISTS + ([], [[0]], (), (2, [[0]]), Table(1, [1])):
            with self.subTest(value=value):
                self.raises(BadTeams, {"part": "teams"}, Filling, value, None)
                self.raises(BadTeams, {"part": "teams"}, Filling, rooms=[1], teams=value)

    def test_wrong_rooms(self):
        some = Teams(2, [[0], [1]])
        for value in NO_LISTS + ([], (), [1], [1, 2, 3], [[1, 2]]):
            with self.subTest(value=value):
                self.raises(BadFilling, {"part": "rooms"}, Filling, some, value)
                self.raises(BadFilling, {"part": "rooms"}, Filling, rooms=value, teams=some)
        for room in NO_INTEGERS + (0, 501, -1, 10**99, -10**99):
            with self.subTest(room=room):
                self.raises(BadFilling, {"part": "rooms"}, Filling, some, [1, room])
        self.same(Filling(some, (1, 500)).rooms, (1, 500))

    def test_rooms_are_copied(self):
        rooms = [1, 2]
        filling = Filling(Teams(2, [[1], [0]]), rooms)
        rooms[0] = 9
        self.same([filling.rooms, filling.teams.teams, label_of(filling, "+0")], [(1, 2), ((0,), (1,)), 1])

    def test_equal_if_teams_and_rooms_are(self):
        some = Teams(2, [[0], [1]])
        self.same([Filling(some, [1, 2]) == Filling(Teams(2, [[1], [0]]), (1, 2)), Filling(some, [1, 2]) == Filling(some, [2, 1]),
                   Filling(some, [1, 2]) == Filling(Teams(2, [[0], [0, 1]]), [1, 2])], [True, False, False])
        for value in (None, some, [1, 2], (some, (1, 2)), Table(1, [1]), str(Filling(some, [1, 2])), True):
            self.same([Filling(some, [1, 2]) == value, value == Filling(some, [1, 2])], [False, False])

    def test_one_and_five_hundred_teams(self):
        lots = [[person for person in range(12) if lot >> person & 1] for lot in range(1, 501)]
        some = Teams(12, lots)
        filling = Filling(some, list(range(1, 501)))
        self.same([filling.rooms, label_of(filling, "+" * 12), label_of(filling, "-" * 12)], [tuple(range(1, 501)), 503, -503])
        self.same(label_of(Filling(Teams(1, [[0]]), [500]), "-"), -500)
        for wrong in (499, 501, 0, 1000):
            self.raises(BadFilling, {"part": "rooms"}, Filling, some, [1] * wrong)


class Texts(Case):
    def test_read_back(self):
        source = numbers(82)
        for people in (1, 2, 3, 5, 12):
            for many in (1, 4, 30):
                some = some_teams(people, many, source)
                for most in (1, 9, 500):
                    filling = Filling(some, [next(source) % most + 1 for _ in range(some.many)])
                    text = str(filling)
                    parts = [" ".join(map(str, (room, *team))) for room, team in zip(filling.rooms, some.teams)]
                    self.same(text, " / ".join([str(people), *parts]))
                    for got in (Filling.read(text), Filling.read(text=text)):
                        self.same([got == filling, str(got), got.teams == some, got.rooms], [True, text, True, filling.rooms])

    def test_what_is_no_string(self):
        for value in NO_STRINGS + (Filling(Teams(1, [[0]]), [1]), ["1 / 1 0"], b"1 / 1 0"):
            with self.subTest(value=value):
                self.raises(BadText, {"line": 0, "item": 0}, Filling.read, value)
                self.raises(BadText, {"line": 0, "item": 0}, Filling.read, text=value)

    def test_some_items_told_outright(self):
        for text, item in (("", 0), ("3", 1), ("3 /", 2), ("3 / 1", 3), ("3 / 0 0", 2), ("3 / 501 0", 2), ("3 / 1 3", 3), ("3 / 1 0 0", 4), ("13 / 1 0", 0),
                           ("3 / 1 0 1 2 3", 6), ("3 / 1 0 /", 5), ("3 / 1 0 / 1", 6), ("3 / 1 0 / 2 0", 6), ("3 / 1 1 / 1 0", 6), ("3 / / 0", 2),
                           ("3 / 01 0", 2), ("3 / -1 0", 2), ("3 / 1  0", 3), ("3 / 1 0 ", 4), ("1 / 1 0 1", 4), ("3 / 1 /", 3), ("3 / 0 1 / 0 2", 2)):
            with self.subTest(text):
                self.same(wrong_item(text, True), item)
                self.raises(BadText, {"line": 0, "item": item}, Filling.read, text)

    def test_a_501st_team(self):
        parts = sorted(tuple(person for person in range(12) if lot >> person & 1) for lot in range(1, 501))
        text = " / ".join(["12", *[" ".join(map(str, (500, *team))) for team in parts]])
        self.same(str(Filling.read(text)), text)
        self.raises(BadText, {"line": 0, "item": len(text.split(" "))}, Filling.read, text + " / 1 11")
        self.raises(BadText, {"line": 0, "item": 1501}, Filling.read, "12" + " / 1 0" * 500 + " / 1 0")
        self.raises(BadText, {"line": 0, "item": 1500}, Filling.read, "12" + " / 1 0" * 500)

    def test_changed_texts(self):
        for text in ("1 / 1 0", "3 / 2 0 1 / 1 0 2", "12 / 500 0 10 / 3 1 / 3 1 2 11 / 12 11"):
            for each in changed_texts(text):
                self.compare(each)

    def compare(self, text):
        """See that the text is read, or refused at its first wrong item."""
        item = wrong_item(text, True)
        with self.subTest(text[:200]):
            if item is None:
                self.same(str(Filling.read(text)), text)
            else:
                self.raises(BadText, {"line": 0, "item": item}, Filling.read, text)


class Clashes(Case):
    def test_any_fillings(self):
        source = numbers(83)
        found = set()
        for people in (1, 2, 3, 5, 12):
            for most in (1, 2, 3, 500):
                some = some_teams(people, 9, source)
                filling = Filling(some, [next(source) % most + 1 for _ in range(some.many)])
                wanted = tuple((i, j) for i in range(some.many) for j in range(i + 1, some.many)
                               if filling.rooms[i] == filling.rooms[j] and not set(some.teams[i]) & set(some.teams[j]))
                self.same([clash_pairs(filling), clash_pairs(filling=filling)], [wanted, wanted])
                found.add(len(wanted) > 1)
        self.assertEqual(found, {True, False})

    def test_one_room_for_all(self):
        some = Teams(4, ALL_OF_FOUR)
        self.same([clash_pairs(Filling(some, [7] * 6)), clash_pairs(Filling(some, range_list(6)))], [((0, 5), (1, 4), (2, 3)), ()])

    def test_what_is_no_filling(self):
        for value in NO_LISTS + ([], (), [1], Teams(1, [[0]]), Table(1, [1]), "1 / 1 0", Filling, (Teams(1, [[0]]), (1,))):
            with self.subTest(value=value):
                self.raises(BadFilling, {"part": "filling"}, clash_pairs, value)
                self.raises(BadFilling, {"part": "filling"}, clash_pairs, filling=value)


def range_list(many):
    """The list of the first integers from 1 on."""
    return list(range(1, many + 1))


if __name__ == "__main__":
    unittest.main()
