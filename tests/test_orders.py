"""roomstair.orders: teams in other orders, the best order."""

import itertools
import unittest

from cases import NO_LISTS, Case, numbers, some_teams
from roomstair import errors, orders, teams, waves
from roomstair.errors import BadOrder, BadTeams, TooMany
from roomstair.orders import best_order, in_order
from roomstair.teams import Teams
from roomstair.waves import need
from test_teams import LOTS, NO_TEAMS


def in_order_by_hand(some, order):
    """The teams in an order, ascending, by looking each person up."""
    return tuple(sorted(tuple(sorted(list(order).index(person) for person in team)) for team in some.teams))


def best_by_hand(some):
    """The first order with the greatest need, and this need, of all orders in turn."""
    found = [(need(Teams(some.people, in_order_by_hand(some, order))), order) for order in itertools.permutations(range(some.people))]
    greatest = max(told for told, _ in found)
    return min(order for told, order in found if told == greatest), greatest


class Examples(Case):
    def test_the_examples(self):
        self.examples("""
>>> duo = Teams(3, [[1, 0], (2, 0)])
>>> lone = Teams(2, [(0,), (1,)])
>>> [in_order(duo, [1, 0, 2]).teams, need(in_order(duo, (1, 0, 2))), best_order(duo)]
[((0, 1), (1, 2)), 0, ((0, 1, 2), 1)]
>>> [best_order(Teams(3, [(0, 1), (1, 2)])), best_order(lone)]
[((0, 2, 1), 1), ((0, 1), 2)]
>>> in_order(duo, [0, 1])
raises BadOrder('order')
""", {**vars(errors), **vars(teams), **vars(waves), **vars(orders)})


class InOrder(Case):
    def test_all_orders_of_few_people(self):
        source = numbers(71)
        for people in (1, 2, 3, 4):
            for many in (1, 3, 9):
                some = some_teams(people, many, source)
                for order in itertools.permutations(range(people)):
                    wanted = in_order_by_hand(some, order)
                    for got in (in_order(some, order), in_order(order=list(order), teams=some)):
                        self.same([type(got), got.people, got.teams, got.many], [Teams, people, wanted, some.many])
                self.same(in_order(some, list(range(people))) == some, True)

    def test_the_person_at_a_place_of_the_order_gets_its_number(self):
        some = Teams(4, [[3], [0, 2]])
        self.same([in_order(some, [3, 0, 1, 2]).teams, in_order(some, [1, 2, 3, 0]).teams], [((0,), (1, 3)), ((1, 3), (2,))])

    def test_twelve_people(self):
        some = Teams(12, LOTS[:500])
        order = [5, 4, 3, 2, 1, 0, 11, 10, 9, 8, 7, 6]
        self.same(in_order(some, order).teams, in_order_by_hand(some, order))
        self.same([in_order(in_order(some, order), order) == some, order], [True, [5, 4, 3, 2, 1, 0, 11, 10, 9, 8, 7, 6]])

    def test_errors_in_their_order(self):
        for value in NO_TEAMS:
            with self.subTest(value=value):
                self.raises(BadTeams, {"part": "teams"}, in_order, value, None)
                self.raises(BadTeams, {"part": "teams"}, in_order, order=[0], teams=value)
        some = Teams(2, [[0]])
        for value in NO_LISTS + ([], (), [0], [1], [0, 0], [0, 1, 2], [0, 2], [1, 2], [-1, 0], [0, True], [False, 1], [0, 1.0], ["0", "1"], "01",
                                 [0, None], [[0, 1]], [0, 10**99], [0, 1, 0], [0, 1, 1], {0: 1, 1: 0}, {0, 1}):
            with self.subTest(value=value):
                self.raises(BadOrder, {"part": "order"}, in_order, some, value)
                self.raises(BadOrder, {"part": "order"}, in_order, order=value, teams=some)


class Best(Case):
    def test_any_teams(self):
        source = numbers(72)
        found = set()
        for people in (1, 2, 3, 4, 5):
            for many in (1, 2, 3, 4, 6):
                some = some_teams(people, many, source)
                wanted = best_by_hand(some)
                self.same([best_order(some), best_order(teams=some)], [wanted, wanted])
                found.add(wanted[0] == tuple(range(people)))
                self.same(need(in_order(some, wanted[0])), wanted[1])
        self.assertEqual(found, {True, False})

    def test_pairs_of_people(self):
        source = numbers(73)
        others = 0
        for people in (3, 4, 5):
            pairs = list(itertools.combinations(range(people), 2))
            for _ in range(8):
                some = Teams(people, sorted({pairs[next(source) % len(pairs)] for _ in range(people)}))
                wanted = best_by_hand(some)
                self.same(best_order(some), wanted)
                others += wanted[0] != tuple(range(people))
        self.assertGreater(others, 5)

    def test_some_told_outright(self):
        ring = Teams(5, [(0, 1), (1, 2), (2, 3), (3, 4), (0, 4)])
        self.same([need(ring), best_order(ring)[1]], [1, 2])
        self.same(best_order(Teams(1, [[0]])), ((0,), 1))

    def test_the_first_order_is_wanted_where_all_are_alike(self):
        for people in (1, 2, 3, 4, 5, 6):
            for some in (Teams(people, [[person] for person in range(people)]), Teams(people, list(itertools.combinations(range(people), 1)))):
                self.same(best_order(some), (tuple(range(people)), people))
        self.same(best_order(Teams(6, [list(range(6))])), ((0, 1, 2, 3, 4, 5), 0))

    def test_six_people_and_twenty_teams(self):
        some = Teams(6, list(itertools.combinations(range(6), 3)))
        self.same([some.many, best_order(some)], [20, ((0, 1, 2, 3, 4, 5), 2)])
        few = Teams(6, [(0, 1), (0, 2), (3, 4), (2, 5), (1, 5)])
        self.same(best_order(few), best_by_hand(few))

    def test_seven_people(self):
        for people in (7, 8, 12):
            self.raises(TooMany, {"what": "people", "most": 6}, best_order, Teams(people, [[0]]))
            self.raises(TooMany, {"what": "people", "most": 6}, best_order, teams=Teams(people, [[0, 6]]))

    def test_no_teams(self):
        for value in NO_TEAMS:
            with self.subTest(value=value):
                self.raises(BadTeams, {"part": "teams"}, best_order, value)
                self.raises(BadTeams, {"part": "teams"}, best_order, teams=value)


if __name__ == "__main__":
    unittest.main()
