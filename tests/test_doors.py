"""roomstair.doors: the doors of d-chains, what is beyond and what is down."""

import unittest

from cases import NO_INTEGERS, Case, numbers
from roomstair import doors, errors, tables, turns
from roomstair.chains import full_chains, half_of, is_full
from roomstair.doors import beyond, doors_of
from roomstair.errors import BadChain, BadLabelling, BadNumber, Misfit
from roomstair.fillings import Filling
from roomstair.tables import Table, labels_of
from roomstair.teams import Teams
from roomstair.turns import clashes, turns_of
from test_chains import FULL, LONG, NO_CHAINS, NOT_FULL, chains_by_hand
from test_tables import NO_LABELLINGS, SHUT, TWO, any_table
from test_turns import turns_by_hand

BEYOND = (-1, -2, 10**99, -10**99)


def d_chains(places):
    """All d-chains of rows of so many places, for each d."""
    return [chain for chain in chains_by_hand(places) if is_full(chain)]


def without(chain, index):
    """What is left of a chain without the row with this index."""
    return chain[:index] + chain[index + 1:]


class Examples(Case):
    def test_the_examples(self):
        self.examples("""
>>> two, three = Table(2, [1, 2, 1, 2]), Table(2, [-2, 1, 1, 1])
>>> [doors_of(two, ["+0", "++"]), doors_of(three, ["+0", "++"]), doors_of(three, ["+0", "+-"]), doors_of(labelling=two, chain=("+0",))]
[(0, 1), (1,), (), ()]
>>> least = place_table(3)
>>> [doors_of(least, ["00-", "0+-", "-+-"]), doors_of(least, ["0-0", "+-0", "+-+"]), doors_of(least, ["0-0", "+-0", "+--"]), doors_of(least, ["0-0", "+-0"])]
[(0,), (1, 2), (), (1,)]
>>> [beyond(["+0", "++"], 0), beyond(("0+", "++"), 1), beyond(["+0", "++"], 1), beyond(chain=["0+00", "-+00"], index=1)]
[('0+', '++'), ('0+', '-+'), None, ('0+00', '++00')]
>>> [beyond(["0-0", "+-0", "+-+"], index) for index in (0, 1, 2)]
[('+00', '+-0', '+-+'), ('0-0', '0-+', '+-+'), None]
>>> beyond(["00-", "0+-", "-+-"], 2)
('00-', '0+-', '++-')
>>> doors_of(two, ["0+", "-+"])
raises Misfit('chain')
>>> beyond(["+0"], 0)
raises Misfit('chain')
>>> beyond(["0+"], 0)
raises BadChain('chain')
>>> beyond(["+0", "++"], 2)
raises BadNumber('index')
""", {**vars(errors), **vars(tables), **vars(turns), **vars(doors)})


class Doors(Case):
    def test_all_d_chains_of_any_tables(self):
        source = numbers(7)
        seen = set()
        for places in (1, 2, 3):
            for most in (1, 2, 3, 5, 1000):
                table = any_table(places, most, source)
                for chain in d_chains(places):
                    seen.add(self.look_at(table, chain))
        self.assertEqual(seen, {None, 0, 1, 2})

    def test_four_places(self):
        table = any_table(4, 6, numbers(8))
        seen = {self.look_at(table, chain) for chain in full_chains(4)}
        self.assertEqual(seen, {None, 0, 1, 2})

    def test_fillings(self):
        pairs = Teams(4, [(0, 1), (0, 2), (0, 3), (1, 2), (1, 3), (2, 3)])
        seen = set()
        for rooms in ([1, 1, 1, 2, 2, 2], [1, 1, 1, 2, 2, 1], [3, 1, 4, 1, 5, 9]):
            for chain in d_chains(4):
                seen.add(self.look_at(Filling(pairs, rooms), chain))
        self.assertEqual(seen, {None, 0, 1, 2})

    def look_at(self, labelling, chain):
        """See that a d-chain has its doors; how many they are, None if it clashes."""
        if clashes(labelling, chain):
            self.raises(Misfit, {"part": "chain"}, doors_of, labelling, chain)
            return None
        many = len(chain)
        told = labels_of(labelling, chain)
        wanted = [at for at in range(many) if many > 1 and turns_by_hand(without(told, at)) == half_of(chain)]
        found = doors_of(labelling, chain)
        self.same([found, doors_of(chain=list(chain), labelling=labelling)], [tuple(wanted)] * 2)
        if many == 1:
            self.same(found, ())
        elif turns_of(labelling, chain) is not None:
            self.same(len(found), 1)
        else:
            self.assertIn(len(found), (0, 2))
        return len(found)

    def test_the_greatest_or_the_least_lacks_of_a_climb(self):
        climb = ("+00", "+-0", "+-+")
        for labels, sign, index in (((1, -2, 3), "+", 2), ((-3, 2, -1), "-", 2), ((3, -2, 1), "+", 0)):
            table = Table(3, self.labels_with(climb, labels))
            self.same([labels_of(table, climb), turns_of(table, climb), doors_of(table, climb)], [labels, sign, (index,)])

    def labels_with(self, chain, labels):
        """The labels of a Table of three places in which the rows of a chain have these."""
        told = [row for row in tables.rows_of(3) if row.strip("0")[0] == "+"]
        wanted = dict(zip(chain, labels))
        return [wanted.get(row, 7) for row in told]

    def test_twelve_places(self):
        alone = Filling(Teams(12, [[person] for person in range(12)]), list(range(1, 13)))
        # By turns from the other sign than the half, -: so without the least label.
        self.same([turns_of(alone, FULL), half_of(FULL), doors_of(alone, FULL)], ["+", "-", (0,)])

    def test_errors_in_their_order(self):
        for value in NO_LABELLINGS:
            with self.subTest(value=value):
                self.raises(BadLabelling, {"part": "labelling"}, doors_of, value, None)
                self.raises(BadLabelling, {"part": "labelling"}, doors_of, chain=["+0"], labelling=value)
        for value in NO_CHAINS + NOT_FULL:
            with self.subTest(value=value):
                for each in (TWO, SHUT):
                    self.raises(BadChain, {"part": "chain"}, doors_of, each, value)
                    self.raises(BadChain, {"part": "chain"}, doors_of, chain=value, labelling=each)
        for value in (["+"], ["+00"], ("+00", "++0"), FULL):
            for each in (TWO, SHUT):
                self.raises(Misfit, {"part": "chain"}, doors_of, each, value)
        self.raises(Misfit, {"part": "chain"}, doors_of, SHUT, ["0+", "-+"])


class Beyond(Case):
    def test_just_one_other_chain_with_the_same_half_and_the_other_rows(self):
        for places in (2, 3):
            every = d_chains(places)
            for chain in every:
                for index in range(len(chain) if len(chain) > 1 else 0):
                    others = [each for each in every if len(each) == len(chain) and each != chain
                              and without(each, index) == without(chain, index) and half_of(each) == half_of(chain)]
                    found = beyond(chain, index)
                    self.same([found, beyond(index=index, chain=list(chain))], [others[0] if others else None] * 2)
                    self.assertLess(len(others), 2)
                    self.assertEqual(found is None, is_full(without(chain, index)) and index == len(chain) - 1)

    def test_beyond_what_is_beyond_is_the_chain_itself(self):
        for chain in full_chains(4):
            for index in range(4):
                other = beyond(chain, index)
                if other is None:
                    self.same([index, is_full(chain[:3])], [3, True])
                else:
                    self.same([beyond(other, index), half_of(other)], [chain, half_of(chain)])

    def test_twelve_places(self):
        self.same([beyond(FULL, 11), beyond(FULL, 0)], [None, ("0-" + "0" * 10,) + FULL[1:]])
        turned = ("0" * 11 + "+",) + tuple("-" * at + "0" * (11 - at) + "+" for at in range(1, 12))
        self.same([is_full(turned), beyond(turned, 11)], [True, turned[:11] + ("-" * 10 + "++",)])

    def test_no_d_chain_comes_first(self):
        for value in NO_CHAINS + NOT_FULL + (LONG,):
            with self.subTest(value=value):
                self.raises(BadChain, {"part": "chain"}, beyond, value, None)
                self.raises(BadChain, {"part": "chain"}, beyond, index=0, chain=value)

    def test_no_index_comes_next(self):
        for value in NO_INTEGERS + BEYOND + (2,):
            with self.subTest(value=value):
                self.raises(BadNumber, {"part": "index"}, beyond, ["+0", "++"], value)
                self.raises(BadNumber, {"part": "index"}, beyond, index=value, chain=("+0", "++"))
                self.raises(BadNumber, {"part": "index"}, beyond, ["+0"], value)
        self.raises(BadNumber, {"part": "index"}, beyond, ["+0"], 1)

    def test_a_1_chain_misfits(self):
        for chain in (["+"], ["-"], ("+00",), ["-" + "0" * 11]):
            self.raises(Misfit, {"part": "chain"}, beyond, chain, 0)
            self.raises(Misfit, {"part": "chain"}, beyond, index=0, chain=chain)

    def test_what_is_passed_is_not_changed(self):
        chain = ["0+", "++"]
        got = beyond(chain, 1)
        self.assertEqual(chain, ["0+", "++"])
        chain[0] = "+0"
        self.same(got, ("0+", "-+"))


if __name__ == "__main__":
    unittest.main()
