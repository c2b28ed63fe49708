"""roomstair.check_walks: right and wrong papers on walks."""

import unittest

from cases import NO_LISTS, STRANGE, Alike, Case, numbers
from roomstair import chains, check_walks, climbs, errors, tables, walks
from roomstair.chains import opposite_chain
from roomstair.check_walks import shows_odd, shows_walk
from roomstair.climbs import Odd, odd_of
from roomstair.errors import BadLabelling, BadTable, Misfit, TooMany
from roomstair.fillings import Filling
from roomstair.papers import Paper
from roomstair.tables import Table, size_table, wave_table
from roomstair.walks import Walk, end_of, step, walk_of, walked
from test_climbs import MANY, free_tables
from test_tables import NO_LABELLINGS, SHUT, TWO
from test_walks import RING, WALKS, some_fillings, some_tables

OTHERS = NO_LISTS + ([], (), [["+0"]], Walk, Odd, Paper("walk", walk_of(TWO)), Paper("odd", 1, 2), walk_of(TWO), TWO)


class Below(Walk):
    """A class below that of the paper: what is made by it is no Walk."""


class BelowOdd(Odd):
    """A class below that of the paper: what is made by it is no Odd."""


def as_lists(value):
    """The value with lists in the place of tuples."""
    return [as_lists(item) for item in value] if isinstance(value, tuple) else value


def spoilt(told):
    """The rows, chains or pairs of a paper with one left out, doubled, exchanged, turned about or joined otherwise."""
    found = [told[::-1], told + told, told[1:], told[:-1], (told,), told + ((),), ((),) + told]
    for at, item in enumerate(told):
        found += [told[:at] + told[at + 1:], told[:at] + (item, item) + told[at + 1:]]
        found += [told[:at] + (item[::-1],) + told[at + 1:], told[:at] + (item[1:],) + told[at + 1:]]
        found += [told[:at] + (each,) + told[at + 1:] for each in (None, True, 1, "", "+", b"+", {}, (item,), Alike(), (Alike(),) * len(item))]
        if at:
            found += [told[:at - 1] + (item, told[at - 1]) + told[at + 1:]]
            found += [told[:at - 1] + (told[at - 1] + item,) + told[at + 1:]]
    return found


class Examples(Case):
    def test_the_examples(self):
        self.examples("""
>>> two = Table(2, [1, 2, 1, 2])
>>> three = Table(3, [-1, -2, -3, -2, -3, 1, 3, 2, -2, -1, 2, 2, 3])
>>> many = Table(3, [-3, 3, -1, -3, 1, 2, -3, 1, 2, -3, -2, -2, -1])
>>> [shows_walk(two, value) for value in (walked(two), Walk([list(chain) for chain in walk_of(two)]), Walk(walk_of(two)[:3]), Walk(walk_of(two)[1:]), Walk(walk_of(two) + (("0+", "-+"),)), walk_of(two), None)]
[True, True, False, False, False, False, False]
>>> [shows_walk(labelling=three, value=walked(three)), shows_walk(three, walked(two)), shows_walk(two, Walk(None))]
[True, False, False]
>>> told = odd_of(many)
>>> [shows_odd(many, value) for value in (told, Odd(told.lone, [told.pairs[0][::-1]]), Odd(told.lone, ()), Odd(told.pairs[0][0], [(told.lone, told.pairs[0][1])]), Odd(opposite_chain(told.lone), told.pairs))]
[True, True, False, False, False]
""", {**vars(errors), **vars(chains), **vars(tables), **vars(walks), **vars(climbs), **vars(check_walks)})


class Walks(Case):
    def test_right_papers(self):
        for labelling in some_tables(numbers(41)) + some_fillings(numbers(42)):
            told = walk_of(labelling)
            for paper in (walked(labelling), Walk(as_lists(told)), Walk(chains=list(told))):
                self.same([shows_walk(labelling, paper), shows_walk(value=paper, labelling=labelling)], [True, True])

    def test_spoilt_papers(self):
        for labelling in (TWO, SHUT, MANY, Table(1, [4]), size_table(3), wave_table(4), some_fillings(numbers(43))[9]):
            told = walk_of(labelling)
            for chains_told in spoilt(told):
                if repr(chains_told) != repr(told):
                    self.same(shows_walk(labelling, Walk(chains_told)), False)
            for at, chain in enumerate(told):
                for rows in spoilt(chain):
                    if repr(rows) != repr(chain):
                        self.same(shows_walk(labelling, Walk(told[:at] + (rows,) + told[at + 1:])), False)

    def test_the_walk_of_another_labelling(self):
        self.same([shows_walk(MANY, walked(size_table(3))), shows_walk(SHUT, walked(TWO)), shows_walk(Table(1, [1]), walked(Table(1, [-1])))],
                  [False, True, False])

    def test_other_values(self):
        for value in OTHERS + (Below(walk_of(TWO)), Odd(walk_of(TWO), ()), Walk(Walk(walk_of(TWO))), as_lists(walk_of(TWO))):
            with self.subTest(value=value):
                self.same([shows_walk(TWO, value), shows_walk(value=value, labelling=TWO), shows_walk(SHUT, value)], [False] * 3)
                self.same(shows_walk(TWO, Walk(value)), repr(value) in (repr(walk_of(TWO)), repr(as_lists(walk_of(TWO)))))

    def test_walks_of_more_chains_than_are_returned(self):
        for many in (2000, 2002):
            filling = Filling(RING, WALKS[many])
            told = long_walk(filling)
            self.same([len(told), end_of(filling)], [many, (many, told[-1])])
            if many > 2000:
                self.raises(TooMany, {"what": "chains", "most": 2000}, walked, filling)
            self.same([shows_walk(filling, Walk(told)), shows_walk(filling, Walk(as_lists(told)))], [True, True])
            wrong = (told[:-1], told[:1999], told + told[-1:], told[1:], told[::-1])
            self.same([shows_walk(filling, Walk(each)) for each in wrong], [False] * 5)

    def test_no_labelling(self):
        for value in NO_LABELLINGS:
            with self.subTest(value=value):
                self.raises(BadLabelling, {"part": "labelling"}, shows_walk, value, walked(TWO))
                self.raises(BadLabelling, {"part": "labelling"}, shows_walk, value=None, labelling=value)


def long_walk(labelling):
    """All chains of a walk, however many, step by step."""
    row = "+" + "0" * (labelling.places - 1)
    chain, came = (row if tables.label_of(labelling, row) > 0 else chains.opposite(row),), None
    found = [chain]
    while True:
        told = step(labelling, chain, came)
        if told is None:
            return tuple(found)
        chain, came = told
        found.append(chain)


class OddOnes(Case):
    def test_right_papers(self):
        source = numbers(44)
        for table in free_tables(source):
            told = odd_of(table)
            turned = [pair[::-1] if next(source) % 2 else pair for pair in told.pairs]
            for paper in (told, Odd(told.lone, told.pairs[::-1]), Odd(list(told.lone), turned), Odd(pairs=turned[::-1], lone=told.lone),
                          Odd(as_lists(told.lone), as_lists(told.pairs))):
                self.same([shows_odd(table, paper), shows_odd(value=paper, table=table)], [True, True])

    def test_spoilt_papers(self):
        looked = 0
        for table in free_tables(numbers(45)):
            told = odd_of(table)
            if table.places > 3 or not told.pairs:
                continue
            looked += 1
            right = sorted(tuple(sorted(pair)) for pair in told.pairs)
            for pairs in spoilt(told.pairs):
                same = len(pairs) == len(right) and all(pair in told.pairs or pair[::-1] in told.pairs for pair in pairs if is_pair(pair))
                same = same and all(is_pair(pair) for pair in pairs) and sorted(tuple(sorted(pair)) for pair in pairs) == right
                self.same(shows_odd(table, Odd(told.lone, pairs)), same)
            for lone in spoilt(told.lone):
                self.same(shows_odd(table, Odd(lone, told.pairs)), repr(lone) == repr(told.lone))
            for lone in (opposite_chain(told.lone), told.pairs[0][0]):
                self.same(shows_odd(table, Odd(lone, told.pairs)), False)
        self.assertGreater(looked, 2)

    def test_climbs_joined_otherwise(self):
        looked = 0
        for table in free_tables(numbers(46)):
            told = odd_of(table)
            if len(told.pairs) < 2:
                continue
            looked += 1
            (one, other), (third, fourth) = told.pairs[:2]
            rest = told.pairs[2:]
            wrong = ([(one, third), (other, fourth)], [(one, fourth), (third, other)], [(one, other), (one, other)],
                     [(one, opposite_chain(other)), (third, fourth)], [(one, other, third), (fourth,)], [(one, one), (other, other)],
                     [(one, other), (third, told.lone)], [one, other, third, fourth], [(one, other)], [(one, other), (third, fourth), (one, other)])
            for pairs in wrong:
                self.same(shows_odd(table, Odd(told.lone, tuple(pairs) + rest)), False)
            self.same(shows_odd(table, Odd(one, ((told.lone, other), (third, fourth)) + rest)), False)
        self.assertGreater(looked, 3)

    def test_other_values(self):
        told = odd_of(MANY)
        for value in OTHERS + (BelowOdd(told.lone, told.pairs), Paper("odd", told.lone, told.pairs), told.parts, Walk(told.parts)):
            with self.subTest(value=value):
                self.same([shows_odd(MANY, value), shows_odd(value=value, table=MANY)], [False, False])
                self.same([shows_odd(MANY, Odd(value, told.pairs)), shows_odd(MANY, Odd(told.lone, value))], [False, False])
        for value in STRANGE + (0, "", "+", (), ((),), ((), ()), (("+00",), 1), (1, ("+00",)), ((None,), ("+",)), (1, 2), ("+", "-"), (None, None)):
            with self.subTest(value=value):
                self.same(shows_odd(MANY, Odd(told.lone, [value])), False)
                self.same(shows_odd(wave_table(2), Odd(("0+", "-+"), [value])), False)
        self.same([shows_odd(wave_table(2), Odd(("0+", "-+"), value)) for value in ((), [], "", None, False)], [True, True, False, False, False])

    def test_errors_as_of_odd_of(self):
        for value in NO_LABELLINGS + (SHUT,):
            with self.subTest(value=value):
                self.raises(BadTable, {"part": "table"}, shows_odd, value, None)
                self.raises(BadTable, {"part": "table"}, shows_odd, value=odd_of(MANY), table=value)
        for table in (wave_table(5), size_table(6), Table(5, [1, -1] * 60 + [1])):
            self.raises(Misfit, {"part": "places"}, shows_odd, table, None)
            self.raises(Misfit, {"part": "places"}, shows_odd, value=odd_of(MANY), table=table)
        self.raises(Misfit, {"part": "table"}, shows_odd, TWO, None)
        self.raises(Misfit, {"part": "table"}, shows_odd, value=odd_of(MANY), table=TWO)


def is_pair(value):
    """Whether a value is a pair of chains."""
    return isinstance(value, tuple) and len(value) == 2 and all(chains.is_chain(each) for each in value)


if __name__ == "__main__":
    unittest.main()
