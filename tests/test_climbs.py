"""roomstair.climbs: all climbs, their number, the paper that they are odd."""

import unittest

from cases import Case, numbers
from roomstair import climbs as climbs_module
from roomstair import errors, tables
from roomstair.chains import full_chains, opposite_chain
from roomstair.climbs import Odd, climbs, how_many, odd_of
from roomstair.errors import BadTable, Misfit
from roomstair.papers import Denial, Paper
from roomstair.tables import Table, opposed_pair, place_table, size_table, wave_table
from roomstair.turns import turns_of
from roomstair.walks import back_of, walk_of
from test_tables import NO_LABELLINGS, SHUT, TWO, any_table
from test_turns import turns_by_hand
from test_walks import some_tables, unopposed_table

MANY = Table(3, [-3, 3, -1, -3, 1, 2, -3, 1, 2, -3, -2, -2, -1])
THREE = Table(3, [-1, -2, -3, -2, -3, 1, 3, 2, -2, -1, 2, 2, 3])
OF_TABLES = (climbs, how_many, odd_of)


def climbs_by_hand(table):
    """All climbs from + of a Table, ascending, worked out by the labels alone."""
    told = {chain: tuple(tables.label_of(table, row) for row in chain) for chain in full_chains(table.places)}
    return tuple(sorted(chain for chain, labels in told.items() if turns_by_hand(labels) == "+"))


def of_both(table, climb):
    """That one of a climb and its opposite that goes from +."""
    return climb if turns_of(table, climb) == "+" else opposite_chain(climb)


def free_tables(source):
    """Tables of 1 to 4 places in which no two rows are opposed."""
    found = [Table(1, [5]), Table(1, [-7]), MANY, THREE]
    for places in (1, 2, 3, 4):
        found += [wave_table(places), size_table(places), place_table(places)]
        found += [unopposed_table(places, most, source) for most in (places, places, places + 1, 5, 6, 100)]
    return [table for table in found if opposed_pair(table) is None]


class Examples(Case):
    def test_the_examples(self):
        self.examples("""
>>> two = Table(2, [1, 2, 1, 2])
>>> many = Table(3, [-3, 3, -1, -3, 1, 2, -3, 1, 2, -3, -2, -2, -1])
>>> [climbs(Table(2, [-2, 1, 1, 1])), climbs(wave_table(3)), how_many(wave_table(4)), how_many(many), how_many(table=Table(2, [1, 2, 1, 2]))]
[(('+0', '++'), ('0+', '++')), (('00+', '0-+', '+-+'),), 1, 3, 0]
>>> odd_of(many).lone
('00-', '0+-', '++-')
>>> odd_of(many).pairs
((('-00', '--0', '---'), ('00-', '0+-', '-+-')),)
>>> [odd_of(Table(1, [-7])).parts, odd_of(wave_table(2)) == Odd(["0+", "-+"], []), bool(odd_of(table=many))]
[(('-',), ()), True, True]
>>> climbs(wave_table(5))
raises Misfit('places')
>>> odd_of(Table(2, [-2, 1, 1, 1]))
raises Misfit('table')
""", {**vars(errors), **vars(tables), **vars(climbs_module)})


class Climbs(Case):
    def test_all_climbs_of_any_tables(self):
        source = numbers(31)
        found = set()
        for table in some_tables(source) + free_tables(source):
            if table.places < 5:
                wanted = climbs_by_hand(table)
                self.same([climbs(table), climbs(table=table)], [wanted, wanted])
                self.same([how_many(table), how_many(table=table)], [len(wanted)] * 2)
                found.add(len(wanted))
        self.assertTrue({0, 1, 2, 3} <= found)

    def test_opposites_go_from_the_other_sign(self):
        for table in free_tables(numbers(32)):
            turned = Table(table.places, [-label for label in table.labels])
            self.same(climbs(turned), tuple(sorted(opposite_chain(climb) for climb in climbs(table))))

    def test_one_place(self):
        self.same([climbs(Table(1, [5])), climbs(Table(1, [-5]))], [(("+",),), (("-",),)])

    def test_odd_where_no_rows_are_opposed(self):
        self.same({how_many(table) % 2 for table in free_tables(numbers(33))}, {1})


class OddOnes(Case):
    def test_each_climb_stands_once(self):
        paired = 0
        for table in free_tables(numbers(34)):
            paper = odd_of(table)
            self.same(odd_of(table=table) == paper, True)
            told = [paper.lone] + [climb for pair in paper.pairs for climb in pair]
            self.same(tuple(sorted(told)), climbs_by_hand(table))
            self.same([paper.lone, paper.parts], [of_both(table, walk_of(table)[-1]), (paper.lone, paper.pairs)])
            self.assertEqual(list(paper.pairs), sorted(paper.pairs))
            for one, other in paper.pairs:
                self.assertLess(one, other)
                self.same([of_both(table, back_of(table, one)[-1]), of_both(table, back_of(table, other)[-1])], [other, one])
                paired += 1
        self.assertGreater(paired, 20)

    def test_opposed_rows(self):
        for table in (TWO, Table(2, [1, -1, 1, 1]), any_table(3, 2, numbers(35)), any_table(4, 3, numbers(36))):
            self.raises(Misfit, {"part": "table"}, odd_of, table)
            self.raises(Misfit, {"part": "table"}, odd_of, table=table)


class Errors(Case):
    def test_no_table(self):
        for value in NO_LABELLINGS + (SHUT,):
            for call in OF_TABLES:
                with self.subTest(value=value, call=call):
                    self.raises(BadTable, {"part": "table"}, call, value)
                    self.raises(BadTable, {"part": "table"}, call, table=value)

    def test_more_than_four_places(self):
        for table in (wave_table(5), size_table(6), Table(5, [1, -1] * 60 + [1])):
            for call in OF_TABLES:
                self.raises(Misfit, {"part": "places"}, call, table)
                self.raises(Misfit, {"part": "places"}, call, table=table)


class Papers(Case):
    def test_any_values_are_kept_with_tuples_for_lists(self):
        for lone, pairs in ((None, True), ([["+"]], [[["a"], []]]), (1, "x"), ({}, [[]])):
            kept = Paper("", lone, pairs).parts
            for paper in (Odd(lone, pairs), Odd(pairs=pairs, lone=lone)):
                self.same([paper.word, paper.lone, paper.pairs, paper.parts, bool(paper)], ["odd", *kept, kept, True])

    def test_equal_if_class_and_parts_are(self):
        self.same([Odd(["+"], []) == Odd(("+",), ()), Odd(1, 2) == Odd(1, 3), Odd(1, 2) == Odd(2, 2)], [True, False, False])
        self.same([Odd(1, 2) == Paper("odd", 1, 2), Paper("odd", 1, 2) == Odd(1, 2), Odd(1, 2) == None], [False] * 3)

    def test_an_odd_is_directly_below_paper(self):
        self.assertEqual(Odd.__bases__, (Paper,))
        self.assertFalse(isinstance(Odd(1, 2), Denial))


if __name__ == "__main__":
    unittest.main()
