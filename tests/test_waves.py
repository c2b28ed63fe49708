"""roomstair.waves: teams that sides hold, free rows, most and need."""

import itertools
import unittest

from cases import NO_ROWS, Case, numbers, opposite_by_hand, some_teams
from roomstair import errors, teams, waves as waves_module
from roomstair.errors import BadRow, BadTeams, Misfit
from roomstair.rows import is_below, is_row, rows_of, waves
from roomstair.teams import Teams
from roomstair.waves import freest, held, is_free, most_waves, need
from test_fillings import ALL_OF_FOUR, is_free_by_hand, most_by_hand
from test_teams import LOTS, NO_TEAMS

OF_ROWS = (held, is_free)
OF_TEAMS = (most_waves, need, freest)


def held_by_hand(some, row):
    """The teams that both sides of a row hold, by the people of the sides."""
    sides = [{place for place, sign in enumerate(row) if sign == each} for each in "+-"]
    return tuple(tuple(team for team in some.teams if set(team) <= side) for side in sides)


def all_kinds(source):
    """Teams of few people: one team, some, one for each person, all lots."""
    found = []
    for people in (1, 2, 3, 4, 5):
        found += [some_teams(people, many, source) for many in (1, 2, 4, 8, 12)]
        found += [Teams(people, [[person]]) for person in range(people)]
        found.append(Teams(people, [[person] for person in range(people)]))
        found.append(Teams(people, [list(range(people))]))
        found.append(Teams(people, [lot for size in range(1, people + 1) for lot in itertools.combinations(range(people), size)]))
    return found


class Examples(Case):
    def test_the_examples(self):
        self.examples("""
>>> duo = Teams(3, [[1, 0], (2, 0)])
>>> pairs = Teams(4, [(0, 1), (0, 2), (0, 3), (1, 2), (1, 3), (2, 3)])
>>> [held(pairs, "++-0"), held(pairs, "+-0-"), is_free(pairs, "+-00"), is_free(teams=pairs, row="+0+-")]
[(((0, 1),), ()), ((), ((1, 3),)), True, False]
>>> lone = Teams(2, [(0,), (1,)])
>>> [[most_waves(each), need(each)] for each in (pairs, duo, lone, Teams(2, [(0, 1)]))]
[[2, 2], [2, 1], [0, 2], [2, 0]]
>>> [freest(lone), waves(freest(pairs)), is_free(pairs, freest(pairs))]
[None, 2, True]
>>> held(duo, "+-")
raises Misfit('row')
>>> is_free([(0, 1)], "+-")
raises BadTeams('teams')
""", {**vars(errors), **vars(teams), **vars(waves_module), "waves": waves})


class Held(Case):
    def test_all_rows_of_few_people(self):
        source = numbers(61)
        for some in all_kinds(source):
            for row in rows_of(some.people):
                wanted = held_by_hand(some, row)
                self.same([held(some, row), held(row=row, teams=some)], [wanted, wanted])
                self.same([is_free(some, row), is_free(row=row, teams=some)], [is_free_by_hand(some, row)] * 2)
                self.same(is_free(some, row), wanted == ((), ()))

    def test_twelve_people_and_five_hundred_teams(self):
        source = numbers(62)
        some = Teams(12, LOTS[:500])
        for _ in range(40):
            row = "".join("+-0"[next(source) % 3] for _ in range(11)) + "+"
            self.same([held(some, row), is_free(some, row)], [held_by_hand(some, row), is_free_by_hand(some, row)])
        self.same([held(some, "+" * 12)[0] == some.teams, held(some, "-" * 12)], [True, ((), some.teams)])
        self.same(held(Teams(12, [[11]]), "0" * 11 + "-"), ((), ((11,),)))

    def test_teams_are_ascending_whatever_the_order_they_were_told_in(self):
        self.same(held(Teams(4, [(3, 2), (2,), (0, 1), (0,)]), "++--"), (((0,), (0, 1)), ((2,), (2, 3))))

    def test_errors_in_their_order(self):
        some = Teams(2, [[0]])
        for call in OF_ROWS:
            for value in NO_TEAMS:
                with self.subTest(call=call, value=value):
                    self.raises(BadTeams, {"part": "teams"}, call, value, None)
                    self.raises(BadTeams, {"part": "teams"}, call, row="+", teams=value)
            for value in NO_ROWS:
                with self.subTest(call=call, value=value):
                    self.raises(BadRow, {"part": "row"}, call, some, value)
                    self.raises(BadRow, {"part": "row"}, call, row=value, teams=some)
            for row in ("+", "-0+", "0" * 11 + "+"):
                self.raises(Misfit, {"part": "row"}, call, some, row)
                self.raises(Misfit, {"part": "row"}, call, row=row, teams=some)


class Most(Case):
    def test_any_teams(self):
        found = set()
        for some in all_kinds(numbers(63)):
            wanted = most_by_hand(some)
            found.add(wanted)
            self.same([most_waves(some), most_waves(teams=some)], [wanted, wanted])
            self.same([need(some), need(teams=some)], [some.people - wanted] * 2)
            self.look_at_freest(some)
        self.assertEqual(found, {0, 1, 2, 3, 4, 5})

    def look_at_freest(self, some):
        """See that the freest row is free, and has most waves."""
        row = freest(some)
        self.same(freest(teams=Teams(some.people, list(map(list, some.teams)))), row)
        if most_waves(some) == 0:
            self.same(row, None)
        else:
            self.same([is_row(row), len(row), waves(row), is_free_by_hand(some, row)], [True, some.people, most_waves(some), True])

    def test_some_told_outright(self):
        some = [Teams(4, ALL_OF_FOUR), Teams(3, [(0, 1), (0, 2)]), Teams(2, [(0,), (1,)]), Teams(2, [(0, 1)]),
                Teams(5, [(0, 1), (1, 2), (2, 3), (3, 4), (0, 4)])]
        self.same([most_waves(each) for each in some], [2, 2, 0, 2, 4])
        self.same([need(each) for each in some], [2, 1, 2, 0, 1])

    def test_many_teams_of_twelve_people(self):
        lots = [[person for person in range(12) if lot >> person & 1] for lot in range(4095, 3595, -1)]
        alone = [[person] for person in range(12)]
        found = [Teams(12, lots), Teams(12, alone), Teams(12, alone[:11]), Teams(12, LOTS[:500])]
        # By the last ones each person from 0 to 8 is a team alone: three people are left.
        self.same([[most_waves(each), need(each)] for each in found], [[12, 0], [0, 12], [1, 11], [3, 9]])
        for some in found:
            self.look_at_freest(some)

    def test_all_teams_of_one_size(self):
        for people, size in ((5, 2), (6, 2), (6, 3), (7, 3), (12, 2), (12, 3), (12, 1), (8, 4), (3, 3), (4, 3)):
            some = Teams(people, list(itertools.combinations(range(people), size)))
            self.same(most_waves(some), min(people, 2 * size - 2))

    def test_no_teams(self):
        for value in NO_TEAMS:
            for call in OF_TEAMS:
                with self.subTest(call=call, value=value):
                    self.raises(BadTeams, {"part": "teams"}, call, value)
                    self.raises(BadTeams, {"part": "teams"}, call, teams=value)


class Facts(Case):
    def test_below_a_free_row_and_opposite_to_it(self):
        for some in all_kinds(numbers(64))[::3]:
            if some.people > 4:
                continue
            free = [row for row in rows_of(some.people) if is_free(some, row)]
            for row in rows_of(some.people):
                if any(is_below(row, other) for other in free):
                    self.assertIn(row, free)
            for row in free:
                self.assertIn(opposite_by_hand(row), free)

    def test_need_of_none_and_of_all(self):
        for some in all_kinds(numbers(65)):
            by_turns = ("+-" * 6)[:some.people]
            self.same([need(some) == 0, need(some) == some.people],
                      [is_free(some, by_turns), all((person,) in some.teams for person in range(some.people))])

    def test_more_teams(self):
        source = numbers(66)
        for some in all_kinds(source):
            if some.many > 1:
                fewer = Teams(some.people, some.teams[1:])
                self.assertLessEqual(most_waves(some), most_waves(fewer))
                self.assertGreaterEqual(need(some), need(fewer))
            wider = {*some.teams, tuple(range(some.people))}
            self.same(most_waves(Teams(some.people, list(wider))), most_waves(some))

    def test_a_last_person_more(self):
        for some in all_kinds(numbers(67)):
            longer = Teams(some.people + 1, some.teams)
            self.same([most_waves(longer), need(longer)], [most_waves(some) + 1, need(some)])

    def test_two_lists_side_by_side(self):
        found = all_kinds(numbers(68))
        for one, other in itertools.product(found[::5], found[::7]):
            joined = Teams(one.people + other.people, one.teams + tuple(tuple(one.people + each for each in team) for team in other.teams))
            self.same([most_waves(joined), need(joined)], [most_waves(one) + most_waves(other), need(one) + need(other)])


if __name__ == "__main__":
    unittest.main()
