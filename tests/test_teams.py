"""roomstair.teams: Teams and their texts, teams that are apart."""

import re
import unittest

from cases import NO_INTEGERS, NO_LISTS, NO_STRINGS, Case, numbers, some_teams
from roomstair import errors, teams
from roomstair.errors import BadNumber, BadTeams, BadText
from roomstair.tables import Table
from roomstair.teams import Teams, apart_pairs, are_apart

LOTS = [[person for person in range(12) if lot >> person & 1] for lot in range(1, 502)]
NO_TEAMS = NO_LISTS + ([], [[0]], (), (2, [[0]]), ((0, 1), (1, 2)), "2 / 0", Teams, Table(1, [1]))
WRONG_TEAMS = NO_LISTS + ([], (), [-1], [0, 0], [True], [1.0], ["0"], [[0]], [None], [10**99], [-10**99], [0, 1, 0], [0, "1"], [False, 1])


def wrong_item(text, rooms=False):
    """The item at which a text of Teams, or of a Filling, is wrong, by looking alone; None if it is right."""
    items = text.split(" ")
    if not re.fullmatch("[1-9]|1[0-2]", items[0]):
        return 0
    people, found, at = int(items[0]), [], 1
    while at < len(items) or not found:
        if at == len(items) or items[at] != "/" or len(found) == 500:
            return at
        at += 1
        if rooms:
            if at == len(items) or not re.fullmatch("[1-9][0-9]?|[1-4][0-9][0-9]|500", items[at]):
                return at
            at += 1
        found.append([])
        while not found[-1] or (at < len(items) and items[at] != "/"):
            least = found[-1][-1] + 1 if found[-1] else 0
            if at == len(items) or items[at] not in [str(person) for person in range(least, people)]:
                return at
            found[-1].append(int(items[at]))
            at += 1
    return None if found == sorted(found) and len(set(map(tuple, found))) == len(found) else len(items) - 1


ODD_ITEMS = ("", "0", "1", "2", "+1", "01", "-0", "-1", "/", "//", "x", "11", "12", "13", "500", "501", "1000", "\u0661", "\u00b2", "\uff11", "1\n",
             "1.", "1_0", "0x1", "9" * 5000, "\\")


def changed_texts(text, odd=ODD_ITEMS):
    """Texts with an item exchanged, put in, left out, doubled, two exchanged, cut off, with two blanks."""
    items = text.split(" ")
    for at in range(len(items) + 1):
        changed = [items[:at], items[:at] + items[at + 1:], items[:at + 1] + items[at:], items[:at] + items[at + 1:at + 2] + items[at:at + 1] + items[at + 2:]]
        for each in odd:
            changed += [items[:at] + [each] + items[at:], items[:at] + [each] + items[at + 1:]]
        yield from [" ".join(told) for told in changed]


class Examples(Case):
    def test_the_examples(self):
        self.examples("""
>>> duo = Teams(3, [[1, 0], (2, 0)])
>>> [duo.people, duo.teams, duo.many, str(duo), Teams.read("3 / 0 1 / 0 2") == duo, Teams(teams=[(0, 2), (0, 1)], people=3) == duo]
[3, ((0, 1), (0, 2)), 2, '3 / 0 1 / 0 2', True, True]
>>> pairs = Teams(4, [(0, 1), (0, 2), (0, 3), (1, 2), (1, 3), (2, 3)])
>>> [apart_pairs(pairs), apart_pairs(duo), are_apart([0, 1], (3, 2)), are_apart(other=[0], one=(0,))]
[((0, 5), (1, 4), (2, 3)), (), True, False]
>>> Teams(3, [(0, 3)])
raises BadTeams('teams')
>>> Teams(3, [(0, 1), [1, 0]])
raises BadTeams('teams')
>>> Teams.read("3 / 0 2 1")
raises BadText(0, 4)
>>> Teams.read("3 / 0 2 / 0 1")
raises BadText(0, 6)
>>> Teams.read("3 /")
raises BadText(0, 2)
""", {**vars(errors), **vars(teams)})


class Made(Case):
    def test_teams_and_their_people_ascend(self):
        some = Teams(4, ([3], [3, 1], (2, 0, 1), [0]))
        self.same([some.people, some.teams, some.many], [4, ((0,), (0, 1, 2), (1, 3), (3,)), 4])

    def test_the_edges(self):
        self.same([Teams(1, [[0]]).teams, Teams(12, [list(range(12))[::-1]]).teams], [((0,),), (tuple(range(12)),)])
        self.same([Teams(12, LOTS[:500]).many, Teams(12, tuple(map(tuple, LOTS[:500]))) == Teams(12, LOTS[499::-1])], [500, True])
        self.raises(BadTeams, {"part": "teams"}, Teams, 12, LOTS)
        # As many teams as there are lots.
        self.same(Teams(3, [[0], [1], [2], [0, 1], [0, 2], [1, 2], [0, 1, 2]]).many, 7)

    def test_wrong_people_come_first(self):
        for value in NO_INTEGERS + (0, 13, -1, 10**99, -10**99):
            with self.subTest(value=value):
                self.raises(BadNumber, {"part": "people"}, Teams, value, None)
                self.raises(BadNumber, {"part": "people"}, Teams, teams=[[0]], people=value)

    def test_wrong_teams(self):
        for value in NO_LISTS + ([], ()):
            with self.subTest(value=value):
                self.raises(BadTeams, {"part": "teams"}, Teams, 3, value)
                self.raises(BadTeams, {"part": "teams"}, Teams, teams=value, people=3)
        for team in WRONG_TEAMS + ([3], [0, 1], (1, 0), [0, 3]):
            with self.subTest(team=team):
                self.raises(BadTeams, {"part": "teams"}, Teams, 3, [(0, 1), team])
                self.raises(BadTeams, {"part": "teams"}, Teams, teams=(team, (0, 1)), people=3)

    def test_equal_if_people_and_teams_are(self):
        self.same([Teams(2, [[0]]) == Teams(2, ((0,),)), Teams(2, [[0]]) == Teams(3, [[0]]), Teams(2, [[0]]) == Teams(2, [[1]])],
                  [True, False, False])
        self.same([Teams(2, [[0], [1]]) == Teams(2, [[1], [0]]), Teams(2, [[0]]) != Teams(2, [[0]])], [True, False])
        for value in (None, (2, ((0,),)), [[0]], "2 / 0", Table(1, [1]), 2, True):
            self.same([Teams(2, [[0]]) == value, value == Teams(2, [[0]])], [False, False])

    def test_teams_are_copied(self):
        told = [[1, 0]]
        some = Teams(2, told)
        self.assertEqual(told, [[1, 0]])
        told[0].append(7)
        told.append([1])
        self.same(some.teams, ((0, 1),))


class Texts(Case):
    def test_read_back(self):
        source = numbers(51)
        found = [Teams(1, [[0]]), Teams(12, LOTS[:500]), Teams(12, [range_of(12)]), Teams(12, [[11], [10]])]
        found += [some_teams(people, many, source) for people in (1, 2, 3, 5, 12) for many in (1, 4, 30)]
        for some in found:
            text = str(some)
            self.same(text, str(some.people) + "".join(" / " + " ".join(map(str, team)) for team in some.teams))
            for got in (Teams.read(text), Teams.read(text=text)):
                self.same([got == some, str(got), got.people, got.teams, got.many], [True, text, some.people, some.teams, some.many])

    def test_what_is_no_string(self):
        for value in NO_STRINGS + (Teams(1, [[0]]), ["1 / 0"], b"1 / 0"):
            with self.subTest(value=value):
                self.raises(BadText, {"line": 0, "item": 0}, Teams.read, value)
                self.raises(BadText, {"line": 0, "item": 0}, Teams.read, text=value)

    def test_some_items_told_outright(self):
        for text, item in (("", 0), (" ", 0), ("3", 1), ("3 ", 1), ("3 / ", 2), ("13 / 0", 0), ("0 / 0", 0), ("3 0", 1), ("3 / 3", 2), ("3 / 0 0", 3),
                           ("3 / 1 0", 3), ("3 / 0 1 2 3", 5), ("3 / 0 /", 4), ("3 / 0 / ", 4), ("3 / 0 / 0", 4), ("3 / 1 / 0", 4), ("3 / 0 1 / 0", 5),
                           ("3 / 0 / 0 1", 5), ("3 / 0 1 / 0 1 2 ", 8), ("1 / 0 0", 3), ("1 / 0 / 0", 4), ("1 / 0 / 0 /", 6), ("3 / /", 2),
                           ("3  / 0", 1), ("3 /  0", 2), ("3 / 0  1", 3), (" 3 / 0", 0), ("3 / 0 ", 3), ("3 / -1", 2), ("3 / 00", 2), ("3 // 0", 1),
                           ("3 / 2 / 0 / 1 x", 7), ("3 / 2 / 0 / 1", 6)):
            with self.subTest(text):
                if text == "3 / 0 / 0 1":
                    self.same(str(Teams.read(text)), text)
                    continue
                self.same(wrong_item(text), item)
                self.raises(BadText, {"line": 0, "item": item}, Teams.read, text)

    def test_a_501st_team(self):
        text = str(Teams(12, LOTS[:500]))
        many = len(text.split(" "))
        self.raises(BadText, {"line": 0, "item": many}, Teams.read, text + " / 11")
        self.raises(BadText, {"line": 0, "item": many}, Teams.read, text + " / x")
        self.raises(BadText, {"line": 0, "item": many}, Teams.read, text + " /")
        # Where the teams do not ascend, the 501st is still the first one that cannot stand.
        self.raises(BadText, {"line": 0, "item": 1001}, Teams.read, "12" + " / 0" * 500 + " / 0")
        self.raises(BadText, {"line": 0, "item": 1000}, Teams.read, "12" + " / 0" * 500)
        self.raises(BadText, {"line": 0, "item": 1000}, Teams.read, "12" + " / 0" * 499 + " / x")

    def test_changed_texts(self):
        for some in (Teams(1, [[0]]), Teams(3, [[0, 1], [0, 2]]), Teams(12, [[0, 10], [1], [1, 2, 11], [11]])):
            for text in changed_texts(str(some)):
                self.compare(text)

    def test_teams_exchanged(self):
        parts = ["0 1", "0 2", "1", "1 2", "2"]
        for i in range(5):
            for j in range(5):
                told = list(parts)
                told[i], told[j] = told[j], told[i]
                self.compare(" / ".join(["3", *told]))
                self.compare(" / ".join(["3", *told[:i], told[j], *told[i:]]))

    def compare(self, text):
        """See that the text is read, or refused at its first wrong item."""
        item = wrong_item(text)
        with self.subTest(text[:200]):
            if item is None:
                self.same(str(Teams.read(text)), text)
            else:
                self.raises(BadText, {"line": 0, "item": item}, Teams.read, text)

    def test_very_long_texts(self):
        for text, item in (("1" * 20000, 0), (" " * 19999, 0), ("3 / " + "0" * 19000, 2), ("3 / 0" + " /" * 9000, 4), ("3 / 0 " + "1 " * 9000, 4),
                           ("3 / " + "-" * 19000, 2)):
            self.raises(BadText, {"line": 0, "item": item}, Teams.read, text)


class Apart(Case):
    def test_any_two_teams(self):
        for one in LOTS[:40] + LOTS[-20:]:
            for other in LOTS[::7]:
                wanted = not set(one) & set(other)
                self.same([are_apart(one, tuple(other[::-1])), are_apart(other=other, one=tuple(one))], [wanted, wanted])
        self.same([are_apart([11], [0]), are_apart((11,), [11]), are_apart(range_of(6), list(range(6, 12)))], [True, False, True])

    def test_wrong_teams(self):
        for value in WRONG_TEAMS + ([12], [0, 12], list(range(13))):
            with self.subTest(value=value):
                self.raises(BadTeams, {"part": "one"}, are_apart, value, None)
                self.raises(BadTeams, {"part": "one"}, are_apart, other=[0], one=value)
                self.raises(BadTeams, {"part": "other"}, are_apart, [0], value)
                self.raises(BadTeams, {"part": "other"}, are_apart, other=value, one=(11, 0))

    def test_pairs_that_are_apart(self):
        source = numbers(52)
        for people in (1, 2, 3, 4, 6, 12):
            for many in (1, 3, 12):
                some = some_teams(people, many, source)
                wanted = sorted((i, j) for i in range(some.many) for j in range(i + 1, some.many)
                                if not set(some.teams[i]) & set(some.teams[j]))
                self.same([apart_pairs(some), apart_pairs(teams=some)], [tuple(wanted)] * 2)

    def test_five_hundred_teams(self):
        some = Teams(12, LOTS[:500])
        found = apart_pairs(some)
        self.same(found == tuple(sorted(set(found))), True)
        self.same(len(found), sum(not set(one) & set(other) for at, one in enumerate(LOTS[:500]) for other in LOTS[:at]))

    def test_no_teams(self):
        for value in NO_TEAMS:
            with self.subTest(value=value):
                self.raises(BadTeams, {"part": "teams"}, apart_pairs, value)
                self.raises(BadTeams, {"part": "teams"}, apart_pairs, teams=value)


def range_of(many):
    """The list of the first integers."""
    return list(range(many))


if __name__ == "__main__":
    unittest.main()
