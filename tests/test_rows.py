"""roomstair.rows: rows, their sizes, signs, waves and sides."""

import itertools
import unittest

from cases import NO_INTEGERS, NO_LISTS, NO_ROWS, Case, below_by_hand, opposite_by_hand
from roomstair import errors, rows
from roomstair.errors import BadNumber, BadRow, Misfit
from roomstair.rows import first_sign, is_below, is_row, opposite, row_of, rows_of, sides_of, size_of, waves

OF_ONE_ROW = (opposite, size_of, first_sign, waves, sides_of)
LONGEST = "+-0+-0+-0+-0"


def rows_by_hand(places):
    """All rows of so many places, ascending, worked out without the program."""
    found = ["".join(signs) for signs in itertools.product("+-0", repeat=places)]
    return tuple(sorted(row for row in found if row.strip("0")))


class Examples(Case):
    def test_the_examples(self):
        self.examples("""
>>> [is_row("+0-"), is_row("00"), is_row(""), is_row("+ -"), is_row("+" * 13), is_row(["+"])]
[True, False, False, False, False, False]
>>> [opposite("+0+--"), size_of("+0+--"), first_sign("0-+"), waves("+0+--"), waves(row="0-+0-"), sides_of("+0+--"), sides_of("0-")]
['-0-++', 4, '-', 2, 3, ((0, 2), (3, 4)), ((), (1,))]
>>> [is_below("+00", "+-0"), is_below("+-0", "+-0"), is_below(one="+00", other="-+0"), row_of(4, [3, 0], (2,)), row_of(places=1, lefts=[], rights=[0])]
[True, False, False, '+0-+', '-']
>>> [rows_of(1), rows_of(2), len(rows_of(6))]
[('+', '-'), ('++', '+-', '+0', '-+', '--', '-0', '0+', '0-'), 728]
>>> is_below("+0", "+00")
raises Misfit('other')
>>> row_of(3, [0], [0, 1])
raises Misfit('rights')
>>> waves("000")
raises BadRow('row')
""", {**vars(errors), **vars(rows)})


class OneRow(Case):
    def test_rows_of_1_to_12_places(self):
        for places in range(1, 13):
            for row in ("+" * places, "-" * places, "0" * (places - 1) + "-", "+" + "0" * (places - 1)):
                self.same(is_row(row), True)
                self.same(is_row(value=row), True)

    def test_what_is_no_row(self):
        for value in NO_ROWS:
            with self.subTest(value=value):
                self.same(is_row(value), False)
                for call in OF_ONE_ROW:
                    self.raises(BadRow, {"part": "row"}, call, value)
                    self.raises(BadRow, {"part": "row"}, call, row=value)

    def test_all_rows_of_few_places(self):
        for row in rows_by_hand(4):
            stretches = [sign for sign, _ in itertools.groupby(row.replace("0", ""))]
            self.same(is_row(row), True)
            self.same(opposite(row), opposite_by_hand(row))
            self.same(size_of(row), len([sign for sign in row if sign != "0"]))
            self.same(first_sign(row), stretches[0])
            self.same(waves(row), len(stretches))
            self.same(sides_of(row), tuple(tuple(at for at in range(4) if row[at] == side) for side in "+-"))

    def test_the_longest_row(self):
        self.same([call(row=LONGEST) for call in OF_ONE_ROW],
                  ["-+0-+0-+0-+0", 8, "+", 8, ((0, 3, 6, 9), (1, 4, 7, 10))])
        self.same([waves("0" * 11 + "-"), waves("+" * 12), size_of("+" * 12)], [1, 1, 12])
        self.same(opposite(opposite(LONGEST)), LONGEST)


class Below(Case):
    def test_all_rows_of_few_places(self):
        for one in rows_by_hand(3):
            for other in rows_by_hand(3):
                self.same(is_below(one, other), below_by_hand(one, other))

    def test_the_edges(self):
        self.same([is_below("+", "+"), is_below("+", "-"), is_below("0" * 11 + "-", "+" * 11 + "-")], [False, False, True])
        self.same([is_below("+-0", "+00"), is_below("0+0", "+0+"), is_below("+00", "+00")], [False, False, False])

    def test_the_order_of_errors(self):
        for value in NO_ROWS:
            with self.subTest(value=value):
                self.raises(BadRow, {"part": "one"}, is_below, value, value)
                self.raises(BadRow, {"part": "one"}, is_below, value, "+")
                self.raises(BadRow, {"part": "other"}, is_below, "+", value)
                self.raises(BadRow, {"part": "other"}, is_below, other=value, one="+0")
        self.raises(Misfit, {"part": "other"}, is_below, "+", "+0")
        self.raises(Misfit, {"part": "other"}, is_below, other="+", one="+0")


class RowOf(Case):
    def test_every_row_comes_of_its_sides(self):
        for row in rows_by_hand(4) + (LONGEST, "+", "-"):
            lefts, rights = sides_of(row)
            self.same(row_of(len(row), lefts, rights), row)
            self.same(row_of(rights=list(rights)[::-1], lefts=list(lefts)[::-1], places=len(row)), row)

    def test_wrong_places_come_first(self):
        for value in NO_INTEGERS + (0, 13, -1, 10**99, -10**99):
            with self.subTest(value=value):
                self.raises(BadNumber, {"part": "places"}, row_of, value, None, None)
                self.raises(BadNumber, {"part": "places"}, row_of, rights=[0], lefts=[], places=value)

    def test_wrong_sides(self):
        for value in NO_LISTS + ([3], [-1], [0, 0], [0, 1, 0], [True], [False], [1.0], ["0"], [[0]], [None], [10**99], ((),)):
            with self.subTest(value=value):
                self.raises(BadRow, {"part": "lefts"}, row_of, 3, value, [0])
                self.raises(BadRow, {"part": "lefts"}, row_of, 3, value, value)
                self.raises(BadRow, {"part": "rights"}, row_of, 3, [0], value)
                self.raises(BadRow, {"part": "rights"}, row_of, places=3, lefts=(), rights=value)

    def test_sides_that_do_not_fit(self):
        for lefts, rights in (([], []), ((), ()), ([0], [0]), ([0, 1, 2], (2,)), ([2], [0, 1, 2])):
            self.raises(Misfit, {"part": "rights"}, row_of, 3, lefts, rights)
        self.raises(Misfit, {"part": "rights"}, row_of, 1, [], [])

    def test_what_is_passed_is_not_changed(self):
        lefts, rights = [2, 0], [1]
        self.same(row_of(3, lefts, rights), "+-+")
        self.assertEqual((lefts, rights), ([2, 0], [1]))

    def test_an_error_changes_nothing(self):
        lefts, rights = [2, 0], [2]
        self.raises(Misfit, {"part": "rights"}, row_of, 3, lefts, rights)
        self.assertEqual((lefts, rights), ([2, 0], [2]))


class RowsOf(Case):
    def test_all_rows_ascend(self):
        for places in range(1, 7):
            self.same(rows_of(places), rows_by_hand(places))
            self.same(rows_of(places=places), rows_by_hand(places))
            self.same(len(rows_of(places)), 3**places - 1)

    def test_wrong_places(self):
        for value in NO_INTEGERS + (0, 7, 12, -1, 10**99, -10**99):
            with self.subTest(value=value):
                self.raises(BadNumber, {"part": "places"}, rows_of, value)
                self.raises(BadNumber, {"part": "places"}, rows_of, places=value)

    def test_half_of_all_rows_begin_with_each_sign(self):
        for places in range(1, 7):
            self.same([first_sign(row) for row in rows_of(places)].count("+"), (3**places - 1) // 2)

    def test_a_row_below_with_as_many_waves_has_the_same_first_sign(self):
        for one in rows_of(4):
            for other in rows_of(4):
                if is_below(one, other):
                    self.assertLess(size_of(one), size_of(other))
                    self.assertLessEqual(waves(one), waves(other))
                    if waves(one) == waves(other):
                        self.assertEqual(first_sign(one), first_sign(other))


if __name__ == "__main__":
    unittest.main()
