"""roomstair.hues: hues of webs, pieces, tied points of one hue."""

import itertools
import unittest

from cases import NO_LISTS, Case, Alike, numbers
from roomstair import errors, hues as hues_module, webs
from roomstair.errors import BadOrder, BadWeb, TooMany
from roomstair.fillings import Filling
from roomstair.hues import Piece, Same, judged_hues, need_in, shows_hues
from roomstair.orders import best_order, in_order
from roomstair.papers import Denial, Paper
from roomstair.stairs import Clash, Stair, judged
from roomstair.waves import need
from roomstair.webs import Web, are_tied, fewest_hues, people_in, team_of, teams_of
from test_webs import NO_WEBS, RING, all_pairs, any_web, few_webs

TRUNK = Web(4, [(2, 3), (0, 1), (0, 2), (1, 2)])
# Need is 0: the teams of its two points meet, and in the order 0, 2, 1 no row by turns holds one.
LOOSE, LOOSE_ORDER = Web(2, []), (0, 2, 1)
ODD_ONES = NO_LISTS + ([], [[]], [None], [0], [0, 1], [1, 2, 0, 3], ["0", "1"], [Alike(), Alike()], {0: 1}, [[5, 6, 7], [1, 2, 0]])


class BelowPiece(Piece):
    """A class below that of the paper: what is made by it is no Piece."""


class BelowSame(Same):
    """A class below that of the paper: what is made by it is no Same."""


def some_orders(web, source, most):
    """Orders of all people of a web, the one as numbered among them."""
    people = list(range(people_in(web)))
    found = [people, people[::-1]]
    while len(found) < most:
        found.append(sorted(people, key=lambda each: next(source)))
    return found


def small_webs(source):
    """Webs of few people, with few points and with more."""
    found = few_webs()[::3] + [RING, TRUNK, LOOSE, Web(5, []), Web(12, all_pairs(12)), Web(8, [pair for pair in all_pairs(8) if pair[0] // 2 != pair[1] // 2])]
    found += [any_web(points, share, source) for points in (5, 6, 7) for share in (80, 90)]
    return [web for web in found if people_in(web) <= 12]


def is_same_by_hand(web, hues, one, other):
    """Whether two points are tied and of one hue."""
    return ((one, other) in web.ties or (other, one) in web.ties) and hues[one] == hues[other]


def is_piece_by_hand(web, hues, order, told, points):
    """Whether hues and points are a piece, by looking alone."""
    many = need(in_order(teams_of(web), order))
    if len(told) != many or len(points) != many or list(told) != [hues[point] for point in points]:
        return False
    if any(one >= other for one, other in zip(told, told[1:])):
        return False
    return all(are_tied(web, points[one], points[other]) for one in range(0, many, 2) for other in range(1, many, 2))


def filling_by_hand(web, hues, order):
    """The Filling of the teams of a web in an order by the hues, and its points by their teams."""
    moved = {tuple(sorted(list(order).index(person) for person in team_of(web, point))): point for point in range(web.points)}
    some = in_order(teams_of(web), order)
    return Filling(some, [hues[moved[team]] for team in some.teams]), moved


class Examples(Case):
    def test_the_examples(self):
        self.examples("""
>>> ring, trunk = Web(4, [(0, 1), (1, 2), (2, 3), (0, 3)]), Web(points=4, ties=[(2, 3), (0, 1), (0, 2), [1, 2]])
>>> [judged_hues(ring, [1, 2, 1, 2], (0, 1, 2, 5, 3, 4)).parts, judged_hues(ring, [1, 1, 1, 1], (0, 1, 2, 5, 3, 4)).parts, judged_hues(ring, [3, 5, 3, 5], (0, 1, 2, 3, 4, 5)).parts]
[((1, 2), (2, 3)), (2, 3), ((5,), (3,))]
>>> [judged_hues(trunk, [7, 5, 6, 7], [0, 1, 2]).parts, judged_hues(order=[2, 1, 0], hues=[1, 2, 3, 1], web=trunk) == Piece([1, 2, 3], [0, 1, 2]), judged_hues(trunk, [1, 2, 1, 2], [0, 1, 2]) == Same(0, 2)]
[((5, 6, 7), (1, 2, 0)), True, True]
>>> [need_in(ring, [0, 1, 2, 3, 4, 5]), need_in(order=(0, 1, 2, 5, 3, 4), web=ring), need_in(trunk, [0, 1, 2])]
[1, 2, 3]
>>> [shows_hues(trunk, [7, 5, 6, 7], [0, 1, 2], value) for value in (Piece((5, 6, 7), (1, 2, 0)), Piece([5, 6, 7], [1, 2, 3]), Piece((5, 6), (1, 2)), Same(0, 3), None)]
[True, True, False, False, False]
>>> [shows_hues(trunk, [1, 2, 1, 2], (0, 1, 2), value) for value in (Same(0, 2), Same(2, 0), Same(0, 1), Same(1, 3))]
[True, True, False, False]
>>> judged_hues(ring, [1, 2, 1], [0, 1, 2, 3, 4, 5])
raises BadWeb('hues')
>>> judged_hues(ring, [1, 2, 1, 2], [0, 1, 2, 3, 4])
raises BadOrder('order')
""", {**vars(errors), **vars(webs), **vars(hues_module)})


class Needs(Case):
    def test_any_orders(self):
        source = numbers(131)
        for web in small_webs(source):
            for order in some_orders(web, source, 6):
                wanted = need(in_order(teams_of(web), order))
                self.same([need_in(web, order), need_in(order=tuple(order), web=web)], [wanted, wanted])

    def test_need_is_at_most_the_fewest_hues(self):
        source = numbers(132)
        for web in small_webs(source):
            if web.points <= 14:
                self.assertLessEqual(max(need_in(web, order) for order in some_orders(web, source, 5)), fewest_hues(web))

    def test_the_best_order_of_the_ring(self):
        order, most = best_order(teams_of(RING))
        self.same([need_in(RING, order), most, max(need_in(RING, each) for each in itertools.permutations(range(6)))], [2, 2, 2])
        self.same([need_in(LOOSE, LOOSE_ORDER), need_in(LOOSE, (0, 1, 2))], [0, 1])


class Judged(Case):
    def look_at(self, web, hues, order):
        """See that what is judged is what the Filling shows, and is so by looking; whether it is a piece."""
        filling, moved = filling_by_hand(web, hues, order)
        paper, got = judged(filling), judged_hues(web, hues, order)
        self.same(judged_hues(order=tuple(order), hues=tuple(hues), web=web) == got, True)
        if isinstance(paper, Clash):
            wanted = tuple(sorted([moved[paper.one], moved[paper.other]]))
            self.same([type(got), got.parts, bool(got), is_same_by_hand(web, hues, *got.parts)], [Same, wanted, False, True])
        else:
            wanted = (tuple(room for room, _ in paper.steps), tuple(moved[team] for _, team in paper.steps))
            self.same([type(got), got.parts, bool(got), is_piece_by_hand(web, hues, order, *got.parts)], [Piece, wanted, True, True])
        self.same(shows_hues(web, hues, order, got), True)
        return bool(got)

    def test_all_hueings_of_few_points(self):
        source = numbers(133)
        seen = []
        for web in few_webs():
            for order in some_orders(web, source, 3):
                for hues in itertools.islice(itertools.product((1, 2, 3), repeat=web.points), 0, None, 1 + 7 * (web.points > 3)):
                    seen.append(self.look_at(web, hues, order))
        self.assertGreater(min(seen.count(True), seen.count(False)), 200)

    def test_drawn_hues_and_orders(self):
        source = numbers(134)
        seen = []
        for web in small_webs(source):
            for order in some_orders(web, source, 3):
                for most in (1, 2, web.points, 500):
                    seen.append(self.look_at(web, [next(source) % most + 1 for _ in range(web.points)], order))
        self.assertGreater(min(seen.count(True), seen.count(False)), 30)

    def test_hues_far_apart(self):
        for order in itertools.permutations(range(3)):
            self.same(judged_hues(TRUNK, [500, 1, 250, 499], order).hues in ((1, 250, 500), (1, 250, 499)), True)
        many = Web(12, all_pairs(12))
        got = judged_hues(many, list(range(500, 488, -1)), list(range(12)))
        self.same(got.parts, (tuple(range(489, 501)), tuple(range(11, -1, -1))))

    def test_fewer_hues_than_need(self):
        source = numbers(135)
        looked = 0
        for web in small_webs(source):
            for order in some_orders(web, source, 3)[1:]:
                for most in range(1, need_in(web, order)):
                    hues = [next(source) % most + 1 for _ in range(web.points)]
                    self.same(self.look_at(web, hues, order), False)
                    looked += 1
        self.assertGreater(looked, 20)

    def test_need_0(self):
        for hues in ([1, 1], [1, 2], [500, 3]):
            self.same([judged_hues(LOOSE, hues, LOOSE_ORDER).parts, judged_hues(LOOSE, hues, LOOSE_ORDER) == Piece([], ())], [((), ()), True])

    def test_the_lesser_point_comes_first(self):
        two = Web(2, [(0, 1)])
        for order in ([0, 1], [1, 0]):
            for hue in (1, 500):
                self.same(judged_hues(two, [hue, hue], order).parts, (0, 1))

    def test_what_is_passed_is_not_changed(self):
        hues, order = [7, 5, 6, 7], [2, 0, 1]
        judged_hues(TRUNK, hues, order)
        shows_hues(TRUNK, hues, order, None)
        self.assertEqual((hues, order), ([7, 5, 6, 7], [2, 0, 1]))


class Shown(Case):
    def look_at(self, web, hues, order, paper, wanted):
        """See that a paper is right, or wrong."""
        self.same([shows_hues(web, hues, order, paper), shows_hues(value=paper, order=tuple(order), hues=tuple(hues), web=web)], [wanted, wanted])

    def test_all_papers_of_few_points(self):
        source = numbers(136)
        seen = []
        for web in (RING, TRUNK, LOOSE, Web(3, all_pairs(3)), Web(1, []), Web(3, [(0, 1)])):
            for order in some_orders(web, source, 3) + ([LOOSE_ORDER] if web == LOOSE else []):
                for _ in range(3):
                    hues = [next(source) % 3 + 1 for _ in range(web.points)]
                    for one, other in itertools.product(range(web.points), repeat=2):
                        wanted = is_same_by_hand(web, hues, one, other)
                        self.look_at(web, hues, order, Same(one, other), wanted)
                        seen.append((Same, wanted))
                    for many in range(4):
                        for points in itertools.product(range(web.points), repeat=many):
                            told = [hues[point] for point in points]
                            for each in (told, told[::-1], [hue + 1 for hue in told], told + told[:1], told[1:]):
                                wanted = is_piece_by_hand(web, hues, order, each, points)
                                self.look_at(web, hues, order, Piece(each, points), wanted)
                                seen.append((Piece, wanted))
        self.assertGreater(min(seen.count((made, wanted)) for made in (Same, Piece) for wanted in (True, False)), 20)

    def test_near_right_papers(self):
        source = numbers(137)
        for web in small_webs(source)[::2]:
            order = some_orders(web, source, 3)[2]
            hues = sorted(range(1, 1 + 2 * web.points, 2), key=lambda each: next(source))
            paper = judged_hues(web, hues, order)
            self.same([type(paper), shows_hues(web, hues, order, paper)], [Piece, True])
            told, points = paper.parts
            for at in range(len(told)):
                for hue in (told[at] + 1, told[at] - 1, -told[at], str(told[at]), float(told[at]), None, [told[at]], Alike()):
                    self.look_at(web, hues, order, Piece(told[:at] + (hue,) + told[at + 1:], points), False)
                for point in (-1, web.points, points[at] - web.points, str(points[at]), float(points[at]), None, [points[at]], Alike()):
                    self.look_at(web, hues, order, Piece(told, points[:at] + (point,) + points[at + 1:]), False)
                self.look_at(web, hues, order, Piece(told[:at] + told[at + 1:], points[:at] + points[at + 1:]), False)
                self.look_at(web, hues, order, Piece(told[:at] + told[at:at + 1] + told[at:], points[:at] + points[at:at + 1] + points[at:]), False)
                self.look_at(web, hues, order, Piece(told, points[:at] + points[at + 1:]), False)
                self.look_at(web, hues, order, Piece(told[:at] + told[at + 1:], points), False)
            if len(told) > 1:
                self.look_at(web, hues, order, Piece(told[::-1], points[::-1]), False)
            self.look_at(web, hues, order, Piece(told, list(points)), True)
            self.look_at(web, hues, order, Piece(points, told), points == told)
            self.look_at(web, hues, order, Piece((told,), (points,)), False)

    def test_points_of_like_turns_need_not_be_tied(self):
        # The points of the ring, and one that is tied to all of them: it has its own person, behind the best order of the ring.
        wheel, order = Web(5, RING.ties + tuple((point, 4) for point in range(4))), [0, 1, 2, 6, 3, 5, 4]
        self.same([people_in(wheel), need_in(wheel, order), are_tied(wheel, 0, 2)], [7, 3, False])
        self.look_at(wheel, [1, 9, 3, 9, 2], order, Piece([1, 2, 3], [0, 4, 2]), True)
        self.look_at(wheel, [1, 2, 3, 9, 9], order, Piece([1, 2, 3], [0, 1, 2]), True)
        self.look_at(wheel, [1, 9, 2, 9, 3], order, Piece([1, 2, 3], [0, 2, 4]), False)
        self.look_at(wheel, [2, 9, 3, 9, 1], order, Piece([1, 2, 3], [4, 0, 2]), False)

    def test_the_points_of_a_path(self):
        path = Web(3, [(0, 1), (1, 2)])
        best = max(itertools.permutations(range(people_in(path))), key=lambda order: need_in(path, order))
        self.same(need_in(path, best), 2)
        self.look_at(path, [1, 2, 3], best, Piece([1, 2], [0, 1]), True)
        self.look_at(path, [1, 2, 3], best, Piece([2, 3], [1, 2]), True)
        self.look_at(path, [1, 2, 3], best, Piece([1, 3], [0, 2]), False)

    def test_true_and_false_stand_for_no_number(self):
        two = Web(2, [(0, 1)])
        self.same([shows_hues(two, [1, 1], [0, 1], Same(*told)) for told in ((0, 1), (1, 0), (False, 1), (0, True), (True, False))],
                  [True, True, False, False, False])
        self.same([shows_hues(two, [1, 2], [0, 1], Piece(*told)) for told in (([1, 2], [0, 1]), ([True, 2], [0, 1]), ([1, 2], [False, 1]), ([1, 2], [0, True]))],
                  [True, False, False, False])

    def test_need_0(self):
        for hues in ([1, 1], [2, 1]):
            for told, wanted in ((((), ()), True), (([], []), True), (((1,), (0,)), False), ((None, None), False), (((), None), False), ((None, ()), False),
                                 (("", ""), False), ((0, 0), False), (({}, {}), False), ((False, False), False)):
                self.look_at(LOOSE, hues, LOOSE_ORDER, Piece(*told), wanted)

    def test_other_values(self):
        hues, order = [7, 5, 6, 7], [0, 1, 2]
        piece, same = Piece((5, 6, 7), (1, 2, 0)), Same(0, 2)
        self.same([shows_hues(TRUNK, hues, order, piece), shows_hues(TRUNK, [1, 2, 1, 2], order, same)], [True, True])
        values = ODD_ONES + (
            piece.parts, same.parts, list(piece.parts), TRUNK, Piece, Same, Paper("piece", *piece.parts), Denial("piece", *piece.parts),
            Denial("same", 0, 2), Paper("same", 0, 2), BelowPiece(*piece.parts), BelowSame(0, 2), Stair(piece.parts), Clash(*piece.parts), Clash(0, 2),
            Stair(tuple(zip(*piece.parts))), Piece(0, 2), Same(*piece.parts), Piece(piece, piece), Same(same, same))
        for value in values:
            with self.subTest(value=value):
                for told in (hues, [1, 2, 1, 2], [1, 1, 1, 1]):
                    self.look_at(TRUNK, told, order, value, False)
        for value in ODD_ONES:
            with self.subTest(value=value):
                papers = (Piece(value, (1, 2, 0)), Piece((5, 6, 7), value), Piece(value, value), Same(0, value), Same(value, 2), Same(value, value))
                for paper in papers:
                    for told in (hues, [1, 2, 1, 2]):
                        # Of the odd ones just one is a point: 0 is tied to 2, and both have one hue.
                        wanted = told != hues and type(paper) is Same and type(value) is int and paper.parts in ((0, 2), (2, 0))
                        self.look_at(TRUNK, told, order, paper, wanted)


class Wrong(Case):
    def calls(self, error, fields, web, hues, order):
        """See that all three functions raise the error, by place and by name; need_in only if the hues do not matter."""
        self.raises(error, fields, judged_hues, web, hues, order)
        self.raises(error, fields, judged_hues, order=order, hues=hues, web=web)
        self.raises(error, fields, shows_hues, web, hues, order, None)
        self.raises(error, fields, shows_hues, value=Same(0, 1), order=order, hues=hues, web=web)
        if fields != {"part": "hues"}:
            self.raises(error, fields, need_in, web, order)
            self.raises(error, fields, need_in, order=order, web=web)

    def test_no_web(self):
        for value in NO_WEBS:
            with self.subTest(value=value):
                self.calls(BadWeb, {"part": "web"}, value, None, None)
                self.calls(BadWeb, {"part": "web"}, value, [1, 2, 1, 2], [0, 1, 2, 3, 4, 5])

    def test_no_hues(self):
        for value in NO_LISTS + ([], (), [1, 2, 1], [1, 2, 1, 2, 1], [[1, 2, 1, 2]], {1: 2, 2: 3, 3: 4, 4: 5}):
            with self.subTest(value=value):
                self.calls(BadWeb, {"part": "hues"}, RING, value, None)
                self.calls(BadWeb, {"part": "hues"}, RING, value, [0, 1, 2, 3, 4, 5])
        for hue in (0, 501, -1, True, False, None, "1", 1.0, [1], 10**99, -10**99):
            with self.subTest(hue=hue):
                self.calls(BadWeb, {"part": "hues"}, RING, [1, 2, hue, 2], [0, 0])
                # Also where there are too many people.
                self.calls(BadWeb, {"part": "hues"}, Web(13, all_pairs(13)), [1] * 12 + [hue], None)

    def test_no_order(self):
        orders = NO_LISTS + ([], (), [0, 1, 2, 3, 4], [0, 1, 2, 3, 4, 5, 6], [0, 1, 2, 3, 4, 4], [0, 1, 2, 3, 4, 6], [1, 2, 3, 4, 5, 6], [0, True, 2, 3, 4, 5],
                             [0, 1.0, 2, 3, 4, 5], [-1, 0, 1, 2, 3, 4], ["0", 1, 2, 3, 4, 5], [[0, 1, 2, 3, 4, 5]], [0, 1, 2, 3, 4, None], [0, 1, 2, 3], list(range(12)))
        for value in orders:
            with self.subTest(value=value):
                self.calls(BadOrder, {"part": "order"}, RING, [1, 2, 1, 2], value)
                # An order of more than 12 people is looked at first.
                self.calls(BadOrder, {"part": "order"}, Web(13, all_pairs(13)), [1] * 13, value)

    def test_too_many_people(self):
        for web in (Web(13, all_pairs(13)), Web(6, []), Web(60, []), Web(60, all_pairs(60))):
            order = list(range(people_in(web)))
            for each in (order, order[::-1], tuple(order)):
                self.calls(TooMany, {"what": "people", "most": 12}, web, [1] * web.points, each)


class Papers(Case):
    def test_any_values_are_kept_with_tuples_for_lists(self):
        for one, other in ((None, True), ([1, [2]], ([3],)), ("x", {"a": [1]}), ([], 1.5), (0, [[[]]])):
            kept = Paper("", one, other).parts
            for paper in (Piece(one, other), Piece(points=other, hues=one)):
                self.same([paper.word, paper.hues, paper.points, paper.parts, bool(paper)], ["piece", *kept, kept, True])
            for paper in (Same(one, other), Same(other=other, one=one)):
                self.same([paper.word, paper.one, paper.other, paper.parts, bool(paper)], ["same", *kept, kept, False])

    def test_equal_if_class_and_parts_are(self):
        self.same([Piece([1], [2]) == Piece((1,), (2,)), Piece(1, 2) == Piece(2, 1), Same([0], 1) == Same((0,), 1), Same(0, 1) == Same(1, 0)],
                  [True, False, True, False])
        self.same([Piece(1, 2) == Paper("piece", 1, 2), Same(1, 2) == Denial("same", 1, 2), Same(1, 2) == Clash(1, 2), Piece(1, 2) == Same(1, 2), Same(0, 1) == None],
                  [False] * 5)
        self.same([Piece(1, 2) != Piece(1, 2), Same(1, 2) != Same(1, 2)], [False, False])

    def test_a_piece_is_directly_below_paper_and_a_same_below_denial(self):
        self.assertEqual([Piece.__bases__, Same.__bases__], [(Paper,), (Denial,)])


if __name__ == "__main__":
    unittest.main()
