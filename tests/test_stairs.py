"""roomstair.stairs: the stairs that climbs show, the clashes that rows without a label show."""

import itertools
import unittest

from cases import NO_LISTS, Case, numbers, some_teams
from roomstair import errors, fillings, stairs, tables, teams, waves
from roomstair.chains import full_chains, is_full
from roomstair.errors import BadChain, BadFilling, Misfit
from roomstair.fillings import Filling, clash_pairs
from roomstair.papers import Denial, Paper
from roomstair.stairs import Clash, Stair, clash_in, judged, stair_in
from roomstair.tables import Table, label_of, labels_of
from roomstair.teams import Teams
from roomstair.turns import is_climb
from roomstair.walks import back_of, end_of, walk_of
from roomstair.waves import most_waves, need
from test_chains import FULL, LONG, NO_CHAINS, chains_by_hand
from test_fillings import ALL_OF_FOUR, holds, label_by_hand, most_by_hand
from test_walks import RING, WALKS

NO_FILLINGS = NO_LISTS + ([], (), [1, 2], Teams(1, [[0]]), Table(1, [1]), "1 / 1 0", Filling, (Teams(1, [[0]]), (1,)))
OF_CHAINS = (stair_in, clash_in)
# The walk of this filling has 3,085 chains, and ends at one that clashes.
LONG_CLASH = Filling(
    Teams(12, [(0, 1), (0, 3), (0, 11), (1, 2), (2, 3), (2, 4), (3, 4), (4, 5), (5, 6), (6, 7), (7, 8), (8, 9), (9, 10), (10, 11)]),
    [2, 4, 1, 2, 8, 8, 3, 1, 5, 12, 7, 6, 1, 7])


def are_apart_by_hand(one, other):
    """Whether two teams have nobody in common."""
    return not set(one) & set(other)


def is_stair_by_hand(filling, steps):
    """Whether steps are a stair of a filling, by looking alone."""
    pairs = dict(zip(filling.teams.teams, filling.rooms))
    rooms = [room for room, _ in steps]
    return (len(steps) == need(filling.teams) and rooms == sorted(set(rooms))
            and all(pairs.get(team) == room for room, team in steps)
            and all(are_apart_by_hand(one, other) for (_, one), (_, other) in itertools.product(steps[::2], steps[1::2])))


def is_clash_by_hand(filling, one, other):
    """Whether two teams are a clash of a filling, by looking alone."""
    pairs = dict(zip(filling.teams.teams, filling.rooms))
    return pairs[one] == pairs[other] and are_apart_by_hand(one, other)


def stair_by_hand(filling, climb):
    """The steps that a climb shows, as the document tells it."""
    most = most_by_hand(filling.teams)
    told = {label_by_hand(filling, row): row for row in climb}
    steps = []
    for label in sorted(told, key=abs)[most:]:
        room, sign = abs(label) - most, "+" if label > 0 else "-"
        team = [team for team, each in zip(filling.teams.teams, filling.rooms) if each == room and holds(told[label], sign, team)][0]
        steps.append((room, team))
    return tuple(steps)


def clash_by_hand(filling, chain):
    """The teams that the first row without a label shows, as the document tells it."""
    row = [row for row in chain if label_by_hand(filling, row) is None][0]
    sides = [[(room, team) for team, room in zip(filling.teams.teams, filling.rooms) if holds(row, sign, team)] for sign in "+-"]
    greatest = max(room for room, _ in sides[0] + sides[1])
    return tuple([team for room, team in side if room == greatest][0] for side in sides)


def few_fillings(source):
    """Fillings of up to four people."""
    found = [Filling(Teams(4, ALL_OF_FOUR), rooms) for rooms in ([1, 1, 1, 2, 2, 2], [1, 1, 1, 2, 2, 1], [9, 8, 7, 6, 5, 4])]
    for people in (1, 2, 3, 4):
        for most in (1, 2, 3, 500):
            for many in (1, 3, 6):
                some = some_teams(people, many, source)
                found.append(Filling(some, [next(source) % most + 1 for _ in range(some.many)]))
        found.append(Filling(Teams(people, [[person] for person in range(people)]), list(range(people, 0, -1))))
    return found


class Examples(Case):
    def test_the_examples(self):
        self.examples("""
>>> four = Teams(4, [(2, 3), (0, 1), (0, 2), (0, 3), (1, 2), (1, 3)])
>>> two, one = Filling(four, [1, 1, 1, 2, 2, 2]), Filling(rooms=(1, 1, 1, 2, 2, 1), teams=four)
>>> [judged(two) == Stair([(1, (0, 2)), (2, (1, 3))]), judged(one) == judged(filling=two), bool(judged(one))]
[True, True, True]
>>> lone = Teams(2, [(0,), (1,)])
>>> [judged(Filling(lone, [1, 2])).steps, judged(Filling(lone, [1, 1])).parts, bool(judged(Filling(lone, (7, 7)))), judged(Filling(Teams(2, [(0, 1)]), [5])) == Stair(())]
[((1, (0,)), (2, (1,))), ((1,), (0,)), False, True]
>>> [stair_in(two, ["00-0", "0+-0", "-+-0", "-+-+"]).steps, clash_in(one, ["+000", "++00", "++--"]).parts, clash_in(Filling(lone, [3, 3]), chain=("+0", "+-")) == Clash(other=(1,), one=(0,))]
[((1, (0, 2)), (2, (1, 3))), ((0, 1), (2, 3)), True]
>>> ring = Teams(5, [(0, 1), (1, 2), (2, 3), (3, 4), (0, 4)])
>>> [need(ring), judged(Filling(ring, [1, 2, 2, 3, 1])).parts, judged(Filling(ring, [1, 1, 1, 1, 1])).parts]
[1, ((0, 4), (1, 2)), ((2, 3), (0, 1))]
>>> stair_in(two, ["+000"])
raises Misfit('chain')
>>> clash_in(two, ["+000"])
raises Misfit('chain')
>>> judged([1, 2])
raises BadFilling('filling')
""", {**vars(errors), **vars(teams), **vars(tables), **vars(fillings), **vars(waves), **vars(stairs)})


class Shown(Case):
    def test_all_climbs_of_few_people(self):
        looked = 0
        for filling in few_fillings(numbers(91)):
            for chain in full_chains(filling.teams.people):
                if not is_climb(filling, chain):
                    self.raises(Misfit, {"part": "chain"}, stair_in, filling, chain)
                    continue
                looked += 1
                wanted = stair_by_hand(filling, chain)
                got = stair_in(filling, chain)
                self.same([got.steps, stair_in(chain=list(chain), filling=filling) == got, type(got)], [wanted, True, Stair])
                self.assertTrue(is_stair_by_hand(filling, got.steps))
        self.assertGreater(looked, 100)

    def test_all_chains_of_few_people(self):
        looked = 0
        for filling in few_fillings(numbers(92)):
            if filling.teams.people == 4 and looked > 200:
                continue
            for chain in chains_by_hand(filling.teams.people):
                if None not in labels_of(filling, chain):
                    self.raises(Misfit, {"part": "chain"}, clash_in, filling, chain)
                    continue
                looked += 1
                wanted = clash_by_hand(filling, chain)
                got = clash_in(filling, chain)
                self.same([got.parts, clash_in(chain=list(chain), filling=filling) == got, type(got)], [wanted, True, Clash])
                self.assertTrue(is_clash_by_hand(filling, got.one, got.other))
        self.assertGreater(looked, 200)

    def test_the_first_row_without_a_label_and_the_first_teams_of_its_greatest_room(self):
        some = Teams(6, [(0,), (1,), (2,), (3,), (0, 1), (2, 3), (4,), (5,)])
        # (0,) (0, 1) (1,) (2,) (2, 3) (3,) (4,) (5,)
        filling = Filling(some, [1, 3, 3, 3, 2, 3, 4, 4])
        self.same([label_of(filling, "+-0000"), label_of(filling, "++0000")], [-3, 3])
        self.same(clash_in(filling, ["++0000", "++--00", "++--+-"]).parts, ((0, 1), (2,)))
        self.same(clash_in(filling, ["--++00"]).parts, ((2,), (0, 1)))
        self.same(clash_in(filling, ["++--+-"]).parts, ((4,), (5,)))
        self.same(clash_in(filling, ["0-0+00", "0-0+-0", "0-0+-+"]).parts, ((3,), (1,)))

    def test_other_places_and_other_chains(self):
        filling = Filling(Teams(2, [[0], [1]]), [1, 1])
        for call in OF_CHAINS:
            for chain in (["+"], ["+00"], ("+00", "++0"), FULL, LONG):
                self.raises(Misfit, {"part": "chain"}, call, filling, chain)
                self.raises(Misfit, {"part": "chain"}, call, chain=chain, filling=filling)
        for chain in (["+0"], ["++"], ["+0", "+-"], ["-+"], ["+0", "++"]):
            self.raises(Misfit, {"part": "chain"}, stair_in, filling, chain)

    def test_twelve_places(self):
        alone = Filling(Teams(12, [[person] for person in range(12)]), list(range(1, 13)))
        self.same(stair_in(alone, FULL).steps, tuple((person + 1, (person,)) for person in range(12)))
        self.raises(Misfit, {"part": "chain"}, stair_in, alone, FULL[1:])
        self.raises(Misfit, {"part": "chain"}, clash_in, alone, FULL)
        shut = Filling(alone.teams, [1] * 11 + [2])
        self.same(clash_in(shut, FULL).parts, ((0,), (1,)))

    def test_errors_in_their_order(self):
        filling = Filling(Teams(2, [[0], [1]]), [1, 1])
        for value in NO_FILLINGS:
            with self.subTest(value=value):
                for call in OF_CHAINS:
                    self.raises(BadFilling, {"part": "filling"}, call, value, None)
                    self.raises(BadFilling, {"part": "filling"}, call, chain=["+0"], filling=value)
                self.raises(BadFilling, {"part": "filling"}, judged, value)
                self.raises(BadFilling, {"part": "filling"}, judged, filling=value)
        for value in NO_CHAINS:
            with self.subTest(value=value):
                for call in OF_CHAINS:
                    self.raises(BadChain, {"part": "chain"}, call, filling, value)
                    self.raises(BadChain, {"part": "chain"}, call, chain=value, filling=filling)


class Judged(Case):
    def look_at(self, filling):
        """See that what is judged is what the end of the walk shows, and is so by looking; whether it is a stair."""
        last = end_of(filling)[1]
        got = judged(filling)
        self.same([judged(filling=filling) == got, is_full(last)], [True, True])
        if None in labels_of(filling, last):
            self.same([type(got), got.parts, bool(got)], [Clash, clash_by_hand(filling, last), False])
            self.assertTrue(is_clash_by_hand(filling, got.one, got.other))
            self.assertTrue(clash_pairs(filling))
            return False
        self.same([type(got), got.steps, bool(got)], [Stair, stair_in(filling, last).steps, True])
        self.assertTrue(is_stair_by_hand(filling, got.steps))
        return True

    def test_few_people(self):
        self.assertEqual({self.look_at(filling) for filling in few_fillings(numbers(93))}, {True, False})

    def test_many_people(self):
        source = numbers(94)
        seen = []
        for people in (5, 6, 8, 12):
            for most in (1, 2, 4, 9, 500):
                some = some_teams(people, 30, source)
                seen.append(self.look_at(Filling(some, [next(source) % most + 1 for _ in range(some.many)])))
        self.assertEqual(set(seen), {True, False})

    def test_hundreds_of_teams(self):
        lots = [lot for size in (2, 3, 4) for lot in itertools.combinations(range(12), size)][:500]
        some = Teams(12, lots)
        self.look_at(Filling(some, [at * 7 % 500 + 1 for at in range(500)]))
        self.look_at(Filling(some, [1] * 500))

    def test_fewer_rooms_than_need(self):
        source = numbers(95)
        for some in (Teams(4, ALL_OF_FOUR), Teams(5, list(itertools.combinations(range(5), 2))), Teams(7, list(itertools.combinations(range(7), 2))),
                     Teams(6, [[person] for person in range(6)])):
            fewest = need(some)
            for rooms in range(1, fewest):
                for _ in range(6):
                    names = [next(source) % 500 + 1 for _ in range(rooms)]
                    filling = Filling(some, [names[next(source) % rooms] for _ in range(some.many)])
                    self.same(self.look_at(filling), False)

    def test_need_0(self):
        for some in (Teams(1, [[0]]), Teams(2, [(0, 1)]), Teams(3, [(0, 1), (1, 2)]), Teams(12, [list(range(12))])):
            for room in (1, 500):
                filling = Filling(some, [room] * some.many)
                self.look_at(filling)
                if need(some) == 0:
                    self.same([judged(filling).steps, judged(filling) == Stair([])], [(), True])

    def test_one_room_for_all(self):
        for some in (Teams(4, ALL_OF_FOUR), Teams(12, list(itertools.combinations(range(12), 2))), Teams(3, [[0], [1], [2]])):
            self.same(self.look_at(Filling(some, [5] * some.many)), False)
        # Any two of these teams meet.
        self.same(self.look_at(Filling(Teams(3, [(0, 1), (1, 2), (0, 2)]), [5] * 3)), True)

    def test_each_team_its_own_room(self):
        source = numbers(96)
        for people in (1, 2, 3, 4, 6, 12):
            some = some_teams(people, 20, source)
            for rooms in (list(range(1, some.many + 1)), list(range(500, 500 - some.many, -1))):
                self.same(self.look_at(Filling(some, rooms)), True)

    def test_walks_of_more_chains_than_are_returned(self):
        for many in (2000, 2001, 2002):
            filling = Filling(RING, WALKS[many])
            self.same([self.look_at(filling), end_of(filling)[0]], [True, many])
        self.same([self.look_at(LONG_CLASH), end_of(LONG_CLASH)[0]], [False, 3085])

    def test_all_fillings_of_three_people(self):
        some = Teams(3, [(0,), (1,), (2,)])
        for rooms in itertools.product((1, 2, 3), repeat=3):
            filling = Filling(some, rooms)
            self.same(self.look_at(filling), len(set(rooms)) == 3)
            if len(set(rooms)) == 3:
                self.same([len(judged(filling).steps), back_of(filling, walk_of(filling)[-1]) == walk_of(filling)[::-1]], [3, True])
        self.same(most_waves(some), 0)


class Papers(Case):
    def test_any_values_are_kept_with_tuples_for_lists(self):
        for value, kept in ((None, None), ([], ()), ([[1, [0, 2]]], ((1, (0, 2)),)), (True, True), ("x", "x"), ({"a": [1]}, {"a": [1]})):
            for paper in (Stair(value), Stair(steps=value)):
                self.same([paper.word, paper.steps, paper.parts, bool(paper)], ["stair", kept, (kept,), True])
            for paper in (Clash(value, 7), Clash(other=7, one=value)):
                self.same([paper.word, paper.one, paper.other, paper.parts, bool(paper)], ["clash", kept, 7, (kept, 7), False])

    def test_equal_if_class_and_parts_are(self):
        self.same([Stair([[1, [0]]]) == Stair(((1, (0,)),)), Stair([]) == Stair([1]), Clash([0], [1]) == Clash((0,), (1,)), Clash(0, 1) == Clash(1, 0)],
                  [True, False, True, False])
        self.same([Stair([]) == Paper("stair", []), Clash(0, 1) == Denial("clash", 0, 1), Denial("clash", 0, 1) == Clash(0, 1), Clash(0, 1) == Paper("clash", 0, 1),
                   Stair(1) == None, Clash(1, 2) == (1, 2)], [False] * 6)
        self.same([Stair([]) != Stair(()), Clash(0, 1) != Clash(0, 1)], [False, False])

    def test_a_stair_is_directly_below_paper_and_a_clash_below_denial(self):
        self.assertEqual([Stair.__bases__, Clash.__bases__], [(Paper,), (Denial,)])
        self.assertFalse(isinstance(Stair([]), Denial))


if __name__ == "__main__":
    unittest.main()
