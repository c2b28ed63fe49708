"""roomstair.check_stairs: right and wrong papers on fillings."""

import itertools
import unittest

from cases import NO_LISTS, STRANGE, Alike, Case, numbers, some_teams
from roomstair import check_stairs, errors, fillings, stairs, teams
from roomstair.check_stairs import shows_filling
from roomstair.climbs import Odd
from roomstair.errors import BadFilling
from roomstair.fillings import Filling
from roomstair.papers import Denial, Paper
from roomstair.stairs import Clash, Stair, judged
from roomstair.teams import Teams
from roomstair.walks import Walk
from roomstair.waves import need
from test_fillings import ALL_OF_FOUR
from test_stairs import LONG_CLASH, NO_FILLINGS

FOUR = Teams(4, ALL_OF_FOUR)
TWO, ONE = Filling(FOUR, [1, 1, 1, 2, 2, 2]), Filling(FOUR, [1, 1, 1, 2, 2, 1])
MEETING = Filling(Teams(2, [(0, 1)]), [5])
# What may stand in the place of a room, a person, a team or a pair, and is none.
ODD_ONES = NO_LISTS + ([], [[]], [None], ["0", "1"], [0, None], [0, "1"], [0, 1.0], [Alike(), Alike()], [(0, 1)], [[1, (0, 1)]])


class BelowStair(Stair):
    """A class below that of the paper: what is made by it is no Stair."""


class BelowClash(Clash):
    """A class below that of the paper: what is made by it is no Clash."""


def room_by_hand(filling, team):
    """The room of a team that is told in any order; None if the filling has no such team."""
    rooms = {frozenset(each): room for each, room in zip(filling.teams.teams, filling.rooms)}
    return rooms.get(frozenset(team)) if len(set(team)) == len(team) else None


def is_stair_by_hand(filling, steps):
    """Whether pairs of a room and of people are a stair, by looking alone."""
    rooms = [room for room, _ in steps]
    if len(steps) != need(filling.teams) or any(one >= other for one, other in zip(rooms, rooms[1:])):
        return False
    if any(room_by_hand(filling, team) != room for room, team in steps):
        return False
    return not any(set(one) & set(other) for at, (_, one) in enumerate(steps) for _, other in steps[at + 1::2])


def is_clash_by_hand(filling, one, other):
    """Whether two lots of people are two teams that are a clash, by looking alone."""
    return not set(one) & set(other) and room_by_hand(filling, one) == room_by_hand(filling, other) is not None


def some_fillings(source):
    """Fillings of few people, with few rooms and with many."""
    found = [TWO, ONE, MEETING, Filling(Teams(1, [[0]]), [500]), Filling(Teams(2, [[0], [1]]), [7, 7])]
    for people in (2, 3, 4, 5, 6):
        for most in (1, 2, 3, 4, 9):
            some = some_teams(people, 8, source)
            found.append(Filling(some, [next(source) % most + 1 for _ in range(some.many)]))
    found += [Filling(Teams(people, [[each] for each in range(people)]), list(range(people, 0, -1))) for people in (2, 3, 4)]
    return found


def turned(steps):
    """The same steps with the people of the teams the other way about, all of it in lists."""
    return [[room, list(team)[::-1]] for room, team in steps]


class Examples(Case):
    def test_the_examples(self):
        self.examples("""
>>> four = Teams(4, [(2, 3), (0, 1), (0, 2), (0, 3), (1, 2), (1, 3)])
>>> two, one = Filling(four, [1, 1, 1, 2, 2, 2]), Filling(rooms=(1, 1, 1, 2, 2, 1), teams=four)
>>> [shows_filling(two, value) for value in (judged(two), Stair([(1, [2, 0]), (2, (1, 3))]), Stair([(1, (0, 1)), (2, (2, 3))]), Stair([(2, (1, 2)), (1, (0, 3))]), Stair([(1, (0, 1)), (2, (1, 2))]), Stair([(1, (0, 1))]))]
[True, True, True, False, False, False]
>>> [shows_filling(one, Clash((3, 2), [0, 1])), shows_filling(two, Clash((2, 3), (0, 1))), shows_filling(one, Clash((0, 1), (0, 2))), shows_filling(filling=one, value=None), shows_filling(one, judged(one))]
[True, False, False, False, True]
""", {**vars(errors), **vars(teams), **vars(fillings), **vars(stairs), **vars(check_stairs)})


class Stairs(Case):
    def look_at(self, filling, steps):
        """See that a paper of these steps is right or wrong as it is by looking; whether it is right."""
        wanted = is_stair_by_hand(filling, steps)
        for told in (tuple(steps), turned(steps)):
            self.same([shows_filling(filling, Stair(told)), shows_filling(value=Stair(steps=told), filling=filling)], [wanted, wanted])
        return wanted

    def test_all_lists_of_drawn_pairs(self):
        seen = []
        for filling in some_fillings(numbers(101)):
            pairs = list(zip(filling.rooms, filling.teams.teams))
            many = need(filling.teams)
            for length in {many - 1, many, many + 1} & {0, 1, 2, 3}:
                for steps in itertools.islice(itertools.product(pairs, repeat=length), 400):
                    seen.append(self.look_at(filling, steps))
        self.assertGreater(seen.count(True), 40)
        self.assertGreater(seen.count(False), 2000)

    def test_all_pairs_of_the_pairs_of_four_people(self):
        for filling in (TWO, ONE, Filling(FOUR, [6, 5, 4, 3, 2, 1]), Filling(FOUR, [1] * 6)):
            pairs = [(room, team) for room in sorted({*filling.rooms, 7}) for team in FOUR.teams]
            found = [self.look_at(filling, steps) for steps in itertools.product(pairs, repeat=2)]
            self.same(True in found, filling.rooms != (1,) * 6)

    def test_what_is_judged(self):
        kinds = set()
        for filling in some_fillings(numbers(102)) + [LONG_CLASH]:
            paper = judged(filling)
            self.same(shows_filling(filling, paper), True)
            kinds.add(type(paper))
        self.assertEqual(kinds, {Stair, Clash})

    def test_a_step_less_or_more_or_exchanged(self):
        for filling in some_fillings(numbers(103)):
            paper = judged(filling)
            if not paper:
                continue
            told = paper.steps
            changed = [told[::-1], told + told, (told,), told + ((),), told + ((filling.rooms[0], filling.teams.teams[0]),)]
            for at, step in enumerate(told):
                changed += [told[:at] + told[at + 1:], told[:at] + (step, step) + told[at + 1:], told[:at] + (step,) + told[at:]]
                changed += [told[:at] + (step[::-1],) + told[at + 1:], told[:at] + step + told[at + 1:]]
                changed += [told[:at] + (told[at + 1], step) + told[at + 2:]] if at + 1 < len(told) else []
            for steps in changed:
                if steps != told:
                    self.same(shows_filling(filling, Stair(steps)), False)

    def test_a_room_a_team_or_a_pair_bent(self):
        good = ((1, (0, 2)), (2, (1, 3)))
        self.same(shows_filling(TWO, Stair(good)), True)
        for at in (0, 1):
            room, team = good[at]
            bent = [(room, each) for each in ODD_ONES] + [(each, team) for each in ODD_ONES if each != 1]
            bent += [(room,), (room, team, team), (team, room), (), room, team, (room, (team,)), ((room,), team), (room, *team), [room, [team, 1]]]
            bent += [(room + 1, team), (room - 1, team), (-room, team), (room + 500, team), (str(room), team), (float(room), team), (10**99, team)]
            bent += [(room, team + (team[0],)), (room, team[:1]), (room, team + (4,)), (room, ()), (room, team * 2), (room, team + team[:1])]
            bent += [(room, (person, team[1])) for person in (-1, 4, -4, 10**99, None, "0", float(team[0]), [team[0]])]
            for step in bent:
                steps = [step if each == at else good[each] for each in (0, 1)]
                with self.subTest(steps=steps):
                    self.same(shows_filling(TWO, Stair(steps)), False)

    def test_true_and_false_stand_for_no_number(self):
        self.same([shows_filling(TWO, Stair(steps)) for steps in (
            [(1, (0, 2)), (2, (1, 3))], [(True, (0, 2)), (2, (1, 3))], [(1, (False, 2)), (2, (1, 3))], [(1, (0, 2)), (2, (True, 3))])],
            [True, False, False, False])
        low = Filling(Teams(2, [[0], [1]]), [1, 1])
        self.same([shows_filling(low, Clash(*told)) for told in (([0], [1]), ([False], [1]), ([0], [True]), (0, 1), (False, True))],
                  [True] + [False] * 4)
        # No stair has a room less than 1, and no paper a number for True.
        self.same([shows_filling(MEETING, Stair([])), shows_filling(MEETING, Stair(False)), shows_filling(MEETING, Stair(0))], [True, False, False])

    def test_need_0(self):
        for filling in (MEETING, Filling(Teams(3, [(0, 1), (1, 2)]), [1, 1]), Filling(Teams(12, [list(range(12))]), [500])):
            self.same(need(filling.teams), 0)
            self.same([shows_filling(filling, Stair(steps)) for steps in ([], (), [()], None, "", {}, [(5, (0, 1))], [(1, (0, 1))], [[], []])],
                      [True, True] + [False] * 7)
            self.same(shows_filling(filling, Clash((0, 1), (0, 1))), False)
        # Need is 0, and two teams are apart, in one room: so both papers are right.
        both = Filling(Teams(4, [(0, 1), (2, 3)]), [3, 3])
        self.same([need(both.teams), shows_filling(both, Stair([])), shows_filling(both, Clash((2, 3), (1, 0)))], [0, True, True])

    def test_any_stair_is_right(self):
        alone = Filling(Teams(3, [[0], [1], [2], [0, 1], [1, 2]]), [1, 4, 2, 3, 5])
        # (0,) (0, 1) (1,) (1, 2) (2,) have the rooms 1 4 2 3 5.
        self.same([alone.teams.teams, need(alone.teams)], [((0,), (0, 1), (1,), (1, 2), (2,)), 3])
        right = ([(1, [0]), (2, [1]), (5, [2])], [(1, [0]), (3, [2, 1]), (4, [0, 1])])
        self.same([self.look_at(alone, steps) for steps in right], [True, False])
        found = [steps for steps in itertools.product(list(zip(alone.rooms, alone.teams.teams)), repeat=3) if self.look_at(alone, steps)]
        self.same(found, [((1, (0,)), (2, (1,)), (5, (2,)))])
        pairs = Filling(FOUR, [1, 2, 3, 4, 5, 6])
        self.same([self.look_at(pairs, [(room, team) for room, team in steps]) for steps in (
            [(1, (0, 1)), (6, (2, 3))], [(2, (0, 2)), (5, (1, 3))], [(3, (0, 3)), (4, (1, 2))], [(1, (0, 1)), (2, (0, 2))])],
            [True, True, True, False])

    def test_teams_of_like_turns_may_meet(self):
        # Need is 4, and the first and the third team, the second and the fourth, have people in common.
        some = Teams(6, list(itertools.combinations(range(6), 2)))
        filling = Filling(some, list(range(1, 16)))
        rooms = dict(zip(some.teams, filling.rooms))
        self.same(need(some), 4)
        right = [(rooms[team], team) for team in ((0, 1), (2, 3), (1, 4), (3, 5))]
        right = sorted(right)
        self.same([team for _, team in right], [(0, 1), (1, 4), (2, 3), (3, 5)])
        self.same(self.look_at(filling, right), False)
        found = [steps for steps in itertools.combinations(list(zip(filling.rooms, some.teams)), 4) if self.look_at(filling, steps)]
        self.assertTrue(found)
        self.assertTrue(any(set(steps[0][1]) & set(steps[2][1]) or set(steps[1][1]) & set(steps[3][1]) for steps in found))


class Clashes(Case):
    def test_any_two_teams(self):
        seen = []
        for filling in some_fillings(numbers(104)):
            for one, other in itertools.product(filling.teams.teams, repeat=2):
                wanted = is_clash_by_hand(filling, one, other)
                for paper in (Clash(one, other), Clash(other=list(other)[::-1], one=one[::-1]), Clash(other, one), Clash(list(one), other[::-1])):
                    self.same([shows_filling(filling, paper), shows_filling(value=paper, filling=filling)], [wanted, wanted])
                seen.append(wanted)
        self.assertGreater(seen.count(True), 50)
        self.assertGreater(seen.count(False), 50)

    def test_what_is_no_team_of_the_filling(self):
        few = Filling(Teams(4, [(0, 1), (2, 3)]), [1, 1])
        self.same([shows_filling(few, Clash((0, 1), (2, 3))), shows_filling(few, Clash((3, 2), (1, 0)))], [True, True])
        lots = ODD_ONES + ((0,), (2,), (0, 2), (4, 5), (2, 3, 3), (2, 2), (3, 2, 1), (2, 4), (-1, 2), (2, True), ("2", "3"), "23", (0, 1), ((2, 3),))
        for lot in lots:
            with self.subTest(lot=lot):
                self.same([shows_filling(few, Clash((0, 1), lot)), shows_filling(few, Clash(lot, (0, 1))), shows_filling(few, Clash(lot, lot))], [False] * 3)
        # Two lots that are apart, and both of no room.
        self.same([shows_filling(few, Clash((0,), (1,))), shows_filling(few, Clash((0, 2), (1, 3))), shows_filling(few, Clash((4,), (5,)))], [False] * 3)

    def test_twelve_people(self):
        alone = Filling(Teams(12, [[person] for person in range(12)]), [500] * 12)
        for one, other in itertools.product(range(12), repeat=2):
            self.same(shows_filling(alone, Clash([one], [other])), one != other)
        self.same(shows_filling(LONG_CLASH, judged(LONG_CLASH)), True)


class Others(Case):
    def test_other_values(self):
        stair, clash = judged(TWO), Clash((0, 1), (2, 3))
        self.same([shows_filling(TWO, stair), shows_filling(ONE, clash)], [True, True])
        values = STRANGE + NO_LISTS + (
            [], (), stair.steps, list(stair.steps), clash.parts, stair.parts, ["stair", stair.steps], TWO, Stair, Clash, str(TWO),
            Paper("stair", stair.steps), Denial("stair", stair.steps), Paper("clash", *clash.parts), Denial("clash", *clash.parts),
            BelowStair(stair.steps), BelowClash(*clash.parts), Walk(stair.steps), Odd(*clash.parts), Stair(stair), Stair([stair]), Stair(clash.parts),
            Clash(clash, clash), Clash(stair.steps, stair.steps), Clash(None, None), Clash(clash.parts, ()), Stair(stair.parts))
        for value in values:
            with self.subTest(value=value):
                self.same([shows_filling(each, value) for each in (TWO, ONE, MEETING)], [False] * 3)
                self.same(shows_filling(filling=ONE, value=value), False)
        for value in NO_LISTS + ([[]], [None], "stair", [1], [[1]], [[1, [0]]], {0: (1, (0, 2))}):
            with self.subTest(value=value):
                self.same([shows_filling(TWO, Stair(value)), shows_filling(MEETING, Stair(value)), shows_filling(ONE, Clash(value, value))], [False] * 3)
                self.same([shows_filling(TWO, Stair([value, value])), shows_filling(TWO, Stair([stair.steps[0], value]))], [False, False])

    def test_the_paper_of_another_filling(self):
        self.same([shows_filling(ONE, judged(TWO)), shows_filling(TWO, judged(ONE)), shows_filling(Filling(FOUR, [1] * 6), judged(TWO))],
                  [True, True, False])

    def test_what_is_no_filling(self):
        for value in NO_FILLINGS:
            with self.subTest(value=value):
                self.raises(BadFilling, {"part": "filling"}, shows_filling, value, None)
                self.raises(BadFilling, {"part": "filling"}, shows_filling, value=judged(TWO), filling=value)


if __name__ == "__main__":
    unittest.main()
