"""roomstair.webs: webs, their people and teams, the fewest hues."""

import itertools
import unittest

from cases import NO_INTEGERS, NO_LISTS, STRANGE, Case, numbers, some_teams
from roomstair import errors, lots, orders, teams, waves, webs
from roomstair.errors import BadNumber, BadTeams, BadWeb, TooMany
from roomstair.lots import all_teams
from roomstair.tables import Table
from roomstair.teams import Teams, apart_pairs
from roomstair.waves import need
from roomstair.webs import Web, are_tied, fewest_hues, people_in, team_of, teams_of, web_of
from test_teams import LOTS, NO_TEAMS

RING = Web(4, [(0, 1), (1, 2), (2, 3), (0, 3)])
NO_WEBS = NO_LISTS + ([], (), [[0, 1]], (4, ((0, 1),)), Web, Teams(2, [[0]]), Table(1, [1]), (2, ()))
OF_WEBS = (people_in, teams_of, fewest_hues)


def all_pairs(points):
    """All pairs of points, ascending."""
    return list(itertools.combinations(range(points), 2))


def few_webs():
    """All webs of 1 to 4 points."""
    found = []
    for points in (1, 2, 3, 4):
        pairs = all_pairs(points)
        found += [Web(points, [pair for at, pair in enumerate(pairs) if lot >> at & 1]) for lot in range(2**len(pairs))]
    return found


def any_web(points, share, source):
    """A Web in which so many of a hundred pairs are tied."""
    return Web(points, [pair for pair in all_pairs(points) if next(source) % 100 < share])


def teams_by_hand(web):
    """How many people a web has, and the teams of its points, as the document tells it."""
    ties = set(web.ties)
    pairs = [pair for pair in all_pairs(web.points) if pair not in ties]
    found = [{pair for pair in pairs if point in pair} for point in range(web.points)]
    own = [point for point in range(web.points) if not found[point] or any(found[point] == found[each] for each in range(web.points) if each != point)]
    people = own + pairs
    teams_found = [tuple(number for number, person in enumerate(people) if person == point or person in found[point]) for point in range(web.points)]
    return len(people), teams_found


def fewest_by_hand(web):
    """The fewest hues, by trial of all of them."""
    for most in itertools.count(1):
        for hues in itertools.product(range(most), repeat=web.points):
            if all(hues[one] != hues[other] for one, other in web.ties):
                return most


class Examples(Case):
    def test_the_examples(self):
        self.examples("""
>>> ring, trunk = Web(4, [(0, 1), (1, 2), (2, 3), (0, 3)]), Web(points=4, ties=[(2, 3), (0, 1), (0, 2), [1, 2]])
>>> [ring.points, ring.ties, are_tied(ring, 3, 0), are_tied(web=ring, one=0, other=2), are_tied(ring, 1, 1), ring == trunk]
[4, ((0, 1), (0, 3), (1, 2), (2, 3)), True, False, False, False]
>>> [people_in(ring), [team_of(ring, point) for point in (0, 1, 2, 3)], best_order(teams_of(ring))]
[6, [(0, 4), (1, 5), (2, 4), (3, 5)], ((0, 1, 2, 5, 3, 4), 2)]
>>> [people_in(web=trunk), [team_of(trunk, point) for point in (0, 1, 2, 3)], need(teams_of(trunk)), web_of(teams_of(trunk)).ties]
[3, [(1,), (2,), (0,), (1, 2)], 3, ((0, 1), (0, 2), (0, 3), (1, 3))]
>>> [fewest_hues(ring), fewest_hues(trunk), fewest_hues(web_of(all_teams(4, 2))), fewest_hues(Web(3, []))]
[2, 3, 2, 1]
>>> [people_in(Web(1, [])), team_of(web=Web(2, ()), point=1), team_of(Web(3, [(0, 1)]), 2), people_in(Web(60, []))]
[1, (1, 2), (0, 1), 1770]
>>> Web(3, [(1, 0)])
raises BadWeb('ties')
>>> teams_of(Web(6, []))
raises TooMany('people', 12)
>>> web_of(all_teams(12, 2))
raises TooMany('points', 60)
""", {**vars(errors), **vars(teams), **vars(waves), **vars(orders), **vars(lots), **vars(webs)})


class Made(Case):
    def test_ties_in_any_order(self):
        for ties in itertools.permutations([(0, 1), [0, 3], (1, 2), [2, 3]]):
            for given in (list(ties), ties):
                for web in (Web(4, given), Web(ties=given, points=4)):
                    self.same([web.points, web.ties, web == RING], [4, ((0, 1), (0, 3), (1, 2), (2, 3)), True])

    def test_the_edges(self):
        self.same([Web(1, []).ties, Web(1, ()).points, Web(2, [[0, 1]]).ties, Web(60, [(0, 59)]).ties], [(), 1, ((0, 1),), ((0, 59),)])
        full = Web(60, all_pairs(60)[::-1])
        self.same([len(full.ties), full.ties == tuple(all_pairs(60)), Web(60, ()).ties], [1770, True, ()])

    def test_wrong_points_come_first(self):
        for value in NO_INTEGERS + (0, 61, -1, 10**99, -10**99):
            with self.subTest(value=value):
                self.raises(BadNumber, {"part": "points"}, Web, value, None)
                self.raises(BadNumber, {"part": "points"}, Web, ties=[], points=value)

    def test_wrong_ties(self):
        for value in NO_LISTS + ({(0, 1): True}, {(0, 1)}):
            with self.subTest(value=value):
                self.raises(BadWeb, {"part": "ties"}, Web, 3, value)
                self.raises(BadWeb, {"part": "ties"}, Web, ties=value, points=1)
        for tie in NO_LISTS + ([], (), [0], (0,), (0, 1, 2), [0, 0, 1], (1, 0), [2, 1], (0, 0), (2, 2), (0, 3), (2, 3), (3, 4), (-1, 0), (-2, -1), (-1, 1),
                               (False, 1), (0, True), (False, True), (0, 1.0), (0.0, 1), (None, 1), (0, None), ("0", "1"), (0, "1"), ([0], 1), (0, [1]), ((0, 1),),
                               [[0, 1]], (0, 10**99), (-10**99, 0), {0, 1}, {0: 1, 1: 2}):
            with self.subTest(tie=tie):
                self.raises(BadWeb, {"part": "ties"}, Web, 3, [(1, 2), tie])
                self.raises(BadWeb, {"part": "ties"}, Web, ties=(tie, [1, 2]), points=3)

    def test_ties_twice(self):
        for ties in ([(0, 1), (0, 1)], [[0, 1], (0, 1)], ((0, 1), (1, 2), [0, 1]), [[0, 2], [0, 1], [0, 2]], all_pairs(3) * 2):
            self.raises(BadWeb, {"part": "ties"}, Web, 3, ties)
        # Turned about it is not one below the other.
        self.raises(BadWeb, {"part": "ties"}, Web, 3, [(0, 1), (1, 0)])

    def test_equal_if_points_and_ties_are(self):
        self.same([RING == Web(4, [[2, 3], [0, 3], [0, 1], [1, 2]]), RING == Web(5, RING.ties), RING == Web(4, RING.ties[1:]), RING != Web(4, RING.ties)],
                  [True, False, False, False])
        for value in (None, True, 4, (4, RING.ties), RING.ties, Teams(4, [[0]]), "4", object()):
            with self.subTest(value=value):
                self.same([RING == value, value == RING], [False, False])

    def test_ties_are_copied(self):
        ties = [[0, 1], [1, 2]]
        web = Web(3, ties)
        ties[0][1] = 2
        ties.append([0, 2])
        self.same([web.ties, are_tied(web, 0, 1), are_tied(web, 0, 2), people_in(web)], [((0, 1), (1, 2)), True, False, people_in(Web(3, [(0, 1), (1, 2)]))])

    def test_ties_that_are_passed_are_not_changed(self):
        ties = [[1, 2], [0, 1]]
        Web(3, ties)
        self.assertEqual(ties, [[1, 2], [0, 1]])


class Tied(Case):
    def test_all_pairs_of_points(self):
        source = numbers(121)
        for web in few_webs() + [any_web(points, share, source) for points in (5, 9, 60) for share in (0, 30, 70, 100)]:
            for one in range(0, web.points, 1 + web.points // 20):
                for other in range(web.points):
                    wanted = (one, other) in web.ties or (other, one) in web.ties
                    self.same([are_tied(web, one, other), are_tied(other=other, one=one, web=web)], [wanted, wanted])

    def test_errors_in_their_order(self):
        for value in NO_WEBS:
            with self.subTest(value=value):
                self.raises(BadWeb, {"part": "web"}, are_tied, value, None, None)
                self.raises(BadWeb, {"part": "web"}, are_tied, other=0, one=0, web=value)
        for value in NO_INTEGERS + (4, -1, 60, 10**99, -10**99):
            with self.subTest(value=value):
                self.raises(BadNumber, {"part": "one"}, are_tied, RING, value, value)
                self.raises(BadNumber, {"part": "one"}, are_tied, other=0, one=value, web=RING)
                self.raises(BadNumber, {"part": "other"}, are_tied, RING, 3, value)
                self.raises(BadNumber, {"part": "other"}, are_tied, other=value, one=0, web=RING)


class WebOf(Case):
    def test_any_teams(self):
        source = numbers(122)
        for people in (1, 2, 3, 4, 6, 12):
            for many in (1, 3, 9, 40):
                some = some_teams(people, many, source)
                for web in (web_of(some), web_of(teams=some)):
                    self.same([type(web), web.points, web.ties], [Web, some.many, apart_pairs(some)])
                for one, other in itertools.product(range(some.many), repeat=2):
                    self.same(are_tied(web, one, other), not set(some.teams[one]) & set(some.teams[other]))

    def test_sixty_teams(self):
        self.same([web_of(Teams(12, LOTS[:60])).points, web_of(all_teams(11, 2)).points], [60, 55])
        for many in (61, 66, 500):
            self.raises(TooMany, {"what": "points", "most": 60}, web_of, Teams(12, LOTS[:many]))
            self.raises(TooMany, {"what": "points", "most": 60}, web_of, teams=Teams(12, LOTS[:many]))

    def test_what_is_no_teams(self):
        for value in NO_TEAMS + (RING,):
            with self.subTest(value=value):
                self.raises(BadTeams, {"part": "teams"}, web_of, value)
                self.raises(BadTeams, {"part": "teams"}, web_of, teams=value)


class People(Case):
    def look_at(self, web):
        """See that a web has its people and its teams; whether they are too many for Teams."""
        people, wanted = teams_by_hand(web)
        self.same([people_in(web), people_in(web=web)], [people, people])
        self.same([[team_of(web, point) for point in range(web.points)], team_of(point=web.points - 1, web=web)], [wanted, wanted[-1]])
        self.assertEqual(len(set(wanted)), web.points)
        for one, other in all_pairs(web.points)[:100]:
            self.same(are_tied(web, one, other), not set(wanted[one]) & set(wanted[other]))
        if people > 12:
            self.raises(TooMany, {"what": "people", "most": 12}, teams_of, web)
            self.raises(TooMany, {"what": "people", "most": 12}, teams_of, web=web)
            return True
        some = teams_of(web)
        self.same([type(some), some.people, some.teams, teams_of(web=web) == some], [Teams, people, tuple(sorted(wanted)), True])
        self.look_back(web, wanted)
        return False

    def look_back(self, web, wanted):
        """See that the web of the teams of a web is that web, its points in another order."""
        places = sorted(wanted)
        numbers_of = [places.index(team) for team in wanted]
        moved = sorted(tuple(sorted((numbers_of[one], numbers_of[other]))) for one, other in web.ties)
        self.same(web_of(teams_of(web)) == Web(web.points, moved), True)

    def test_all_webs_of_few_points(self):
        self.assertEqual({self.look_at(web) for web in few_webs()}, {False})

    def test_webs_of_more_points(self):
        source = numbers(123)
        webs_looked = [any_web(points, share, source) for points in (5, 6, 7, 8, 12, 20) for share in (20, 50, 80, 90, 95, 98)]
        self.assertEqual({self.look_at(web) for web in webs_looked}, {True, False})

    def test_webs_of_sixty_points(self):
        none, full = Web(60, []), Web(60, all_pairs(60))
        self.same([people_in(none), people_in(full)], [1770, 60])
        self.same([team_of(full, point) for point in (0, 1, 59)], [(0,), (1,), (59,)])
        self.same([len(team_of(none, 0)), team_of(none, 0), team_of(none, 1)[:3]], [59, tuple(range(59)), (0, 59, 60)])
        # Two points with but one person for a pair, and the same: each has its own.
        almost = Web(60, [pair for pair in all_pairs(60) if pair != (7, 30)])
        self.same([people_in(almost), team_of(almost, 7), team_of(almost, 30), team_of(almost, 31)], [61, (7, 60), (30, 60), (31,)])
        self.assertEqual({self.look_at(web) for web in (none, full, almost, any_web(60, 50, numbers(124)))}, {True})

    def test_twelve_and_thirteen_people(self):
        self.assertFalse(self.look_at(Web(12, all_pairs(12))))
        self.assertTrue(self.look_at(Web(13, all_pairs(13))))
        # Of eight points two each are not tied: 8 own people, and 4 for pairs.
        pairs = [pair for pair in all_pairs(8) if pair[0] // 2 != pair[1] // 2]
        self.same([people_in(Web(8, pairs)), need(teams_of(Web(8, pairs)))], [12, 4])
        self.same([people_in(Web(5, [])), teams_of(Web(5, [])).many, people_in(Web(6, []))], [10, 5, 15])

    def test_any_two_points_tied(self):
        for points in range(1, 13):
            some = teams_of(Web(points, all_pairs(points)))
            self.same([some.teams, need(some)], [tuple((point,) for point in range(points)), points])

    def test_errors(self):
        for value in NO_WEBS:
            with self.subTest(value=value):
                for call in OF_WEBS:
                    self.raises(BadWeb, {"part": "web"}, call, value)
                    self.raises(BadWeb, {"part": "web"}, call, web=value)
                self.raises(BadWeb, {"part": "web"}, team_of, value, None)
                self.raises(BadWeb, {"part": "web"}, team_of, point=0, web=value)
        for value in NO_INTEGERS + (4, -1, 60, 10**99, -10**99):
            with self.subTest(value=value):
                self.raises(BadNumber, {"part": "point"}, team_of, RING, value)
                self.raises(BadNumber, {"part": "point"}, team_of, point=value, web=RING)


class Hues(Case):
    def test_all_webs_of_few_points(self):
        for web in few_webs():
            wanted = fewest_by_hand(web)
            self.same([fewest_hues(web), fewest_hues(web=web)], [wanted, wanted])

    def test_webs_of_more_points(self):
        source = numbers(125)
        found = set()
        for points in (5, 6, 7):
            for share in (10, 30, 50, 60, 70, 80):
                web = any_web(points, share, source)
                found.add(fewest_by_hand(web))
                self.same(fewest_hues(web), fewest_by_hand(web))
        self.assertTrue({2, 3, 4} <= found)

    def test_rings_of_points(self):
        for points in range(3, 15):
            ring = Web(points, [(point, point + 1) for point in range(points - 1)] + [(0, points - 1)])
            self.same(fewest_hues(ring), 2 + points % 2)

    def test_fourteen_points(self):
        for points in range(1, 15):
            self.same([fewest_hues(Web(points, [])), fewest_hues(Web(points, all_pairs(points)))], [1, points])
        # Points in groups of three, tied to all of other groups; and tied within their groups alone.
        apart = [pair for pair in all_pairs(14) if pair[0] // 3 != pair[1] // 3]
        within = [pair for pair in all_pairs(14) if pair[0] // 3 == pair[1] // 3]
        self.same([fewest_hues(Web(14, apart)), fewest_hues(Web(14, within))], [5, 3])
        # A wheel: a ring of thirteen, and one that is tied to all of it.
        wheel = [(point, point + 1) for point in range(12)] + [(0, 12)] + [(point, 13) for point in range(13)]
        self.same(fewest_hues(Web(14, wheel)), 4)

    def test_fifteen_points(self):
        for points in (15, 16, 60):
            for ties in ([], all_pairs(points)):
                self.raises(TooMany, {"what": "points", "most": 14}, fewest_hues, Web(points, ties))
                self.raises(TooMany, {"what": "points", "most": 14}, fewest_hues, web=Web(points, ties))

    def test_webs_of_all_teams_of_a_size(self):
        for people, size in ((3, 1), (3, 2), (4, 2), (5, 2), (5, 4), (5, 3), (4, 3), (13, 1)):
            if people < 13:
                self.same(fewest_hues(web_of(all_teams(people, size))), max(people - 2 * size + 2, 1))

    def test_need_is_at_most_the_fewest_hues(self):
        source = numbers(126)
        for points in (2, 3, 4, 5, 6):
            for share in (40, 70, 90):
                web = any_web(points, share, source)
                if people_in(web) <= 12:
                    self.assertLessEqual(need(teams_of(web)), fewest_hues(web))


class Wrong(Case):
    def test_strange_points_and_ties_at_once(self):
        for value in STRANGE:
            self.raises(BadNumber, {"part": "points"}, Web, value, value)


if __name__ == "__main__":
    unittest.main()
