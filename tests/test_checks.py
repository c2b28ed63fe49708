"""roomstair.checks: integers and bounds of them."""

import unittest

from cases import NO_INTEGERS, Case
from roomstair import checks
from roomstair.checks import are_unlike, is_integer, is_list, is_within


class Integers(Case):
    def test_the_examples(self):
        self.examples("""
>>> [is_integer(True), is_integer(-3), is_within(3, None, 3), is_within(4, 0, 3), is_within(False, 0, None)]
[False, True, True, False, False]
""", vars(checks))

    def test_integers_of_any_size(self):
        for value in (0, 1, -1, 10**99, -10**99):
            self.assertIs(is_integer(value), True)
            self.assertIs(is_integer(value=value), True)

    def test_what_is_no_integer(self):
        for value in NO_INTEGERS:
            with self.subTest(value=value):
                self.assertIs(is_integer(value), False)
                self.assertIs(is_within(value, None, None), False)
                self.assertIs(is_within(value, -5, 5), False)

    def test_both_bounds_are_within(self):
        told = [is_within(value, -2, 3) for value in (-3, -2, 0, 3, 4)]
        self.same(told, [False, True, True, True, False])
        self.same(is_within(value=7, least=7, most=7), True)
        self.same(is_within(most=6, least=8, value=7), False)

    def test_none_is_no_bound(self):
        self.same([is_within(value, None, 0) for value in (-10**99, 0, 1)], [True, True, False])
        self.same([is_within(value, 0, None) for value in (-1, 0, 10**99)], [False, True, True])
        self.same([is_within(value, None, None) for value in (-10**99, 0, 10**99)], [True, True, True])

    def test_bounds_of_any_size(self):
        self.same([is_within(value, -10**99, 10**99) for value in (10**99, 10**99 + 1, -10**99 - 1)], [True, False, False])


class Lists(Case):
    def test_lists_and_tuples_are_lists(self):
        self.same([is_list(value) for value in ([], (), [1], ((),), "", {}, None, {1})], [True] * 4 + [False] * 4)

    def test_unlike_integers(self):
        self.same([are_unlike(value, 0, 3) for value in ([], (), [3], (0, 1, 2, 3), [3, 0])], [True] * 5)
        self.same([are_unlike(value, 0, 3) for value in ([0, 0], [4], [-1], [True], [[0]], "01", None, 0)], [False] * 8)


if __name__ == "__main__":
    unittest.main()
