"""roomstair.chains: chains, d-chains, halves, steps."""

import itertools
import math
import unittest

from cases import NO_INTEGERS, NO_LISTS, NO_ROWS, Alike, Case, below_by_hand, opposite_by_hand
from roomstair import chains, errors
from roomstair.chains import chain_of, full_chains, half_of, is_chain, is_full, opposite_chain, steps_of
from roomstair.errors import BadChain, BadNumber
from roomstair.rows import rows_of

# Chains that are no d-chains.
NOT_FULL = (["0+"], ["+-"], ["+00", "++-"], ["+00", "+0-"], ["00+", "0-+"], ["+0", "+-"][1:], ["0" * 11 + "+"],
            ["++", ], ("0+0", "0++", ), ["+000", "++00", "+++-"])
NO_CHAINS = NO_LISTS + (
    [], (), ["+0", "+0"], ["+0", "-+"], ["++", "+0"], ["+", "++"], ["+0", "+"], ["00", "+0"], ["+0", "00"], ["+0", "++", "++"],
    [["+0"]], [["+0", "++"]], [("+0",)], ["+0", None], [None], [True], [0], [""], ["+0", ["++"]], [b"+0"], ["+" * 13],
    ["+0", {"a": "++"}], ["x"], ["+ "], ["+0"] * 5000,
)
LONG = tuple("+-" * at + "0" * (12 - 2 * at) for at in range(1, 7))
FULL = tuple("+-+-+-+-+-+-"[:at] + "0" * (12 - at) for at in range(1, 13))


def chains_by_hand(places):
    """All chains of rows of so many places, worked out without the program."""
    found, last = [], [(row,) for row in rows_of(places)]
    while last:
        found += last
        last = [chain + (row,) for chain in last for row in rows_of(places) if below_by_hand(chain[-1], row)]
    return found


def is_full_by_hand(chain):
    """Whether a chain is a d-chain, worked out without the program."""
    sizes = [len(row) - row.count("0") for row in chain]
    many = len(chain)
    return sizes == [at + 1 for at in range(many)] and all(set(row[many:]) <= {"0"} for row in chain)


class Examples(Case):
    def test_the_examples(self):
        self.examples("""
>>> [is_chain(["+0", "++"]), is_chain(["+0", "-+"]), is_chain(("0+",)), is_chain([]), is_chain(["+00", "++-"]), is_chain("+0")]
[True, False, True, False, True, False]
>>> [is_full(["0+"]), is_full(["0+", "-+"]), is_full(["+00", "++0"]), is_full(["+00", "++-"]), is_full(["+00", "+0-"])]
[False, True, True, False, False]
>>> [half_of(["+0", "+-"]), steps_of(["0+", "-+"]), chain_of(3, [[1, "+"], (0, "-")]), opposite_chain(["0+", "-+"])]
['-', ((1, '+'), (0, '-')), ('0+0', '-+0'), ('0-', '+-')]
>>> [full_chains(1), full_chains(places=2)[:2], len(full_chains(2)), len(full_chains(3)), len(full_chains(4))]
[(('+',), ('-',)), (('+0', '++'), ('+0', '+-')), 8, 48, 384]
>>> half_of(["0+"])
raises BadChain('chain')
>>> chain_of(2, [(1, "+")])
raises BadChain('steps')
""", {**vars(errors), **vars(chains)})


class Chains(Case):
    def test_all_lists_of_two_and_three_rows(self):
        known = set(chains_by_hand(2))
        for many in (1, 2, 3):
            for rows in itertools.product(rows_of(2), repeat=many):
                self.same(is_chain(rows), rows in known)
                self.same(is_chain(value=list(rows)), rows in known)

    def test_all_chains_of_three_places(self):
        for chain in chains_by_hand(3):
            self.same([is_chain(chain), is_full(chain), is_full(value=list(chain))], [True] + [is_full_by_hand(chain)] * 2)
            self.same(opposite_chain(chain), tuple(opposite_by_hand(row) for row in chain))
            self.same(opposite_chain(opposite_chain(chain=list(chain))), chain)

    def test_no_chains(self):
        for value in NO_CHAINS + tuple([row] for row in NO_ROWS):
            with self.subTest(value=value):
                self.same([is_chain(value), is_full(value)], [False, False])
                for call in (half_of, steps_of, opposite_chain):
                    self.raises(BadChain, {"part": "chain"}, call, value)
                    self.raises(BadChain, {"part": "chain"}, call, chain=value)

    def test_chains_that_are_no_d_chains(self):
        for chain in NOT_FULL:
            with self.subTest(chain=chain):
                self.same([is_chain(chain), is_full(chain)], [True, False])
                self.same(opposite_chain(chain), tuple(opposite_by_hand(row) for row in chain))
                for call in (half_of, steps_of):
                    self.raises(BadChain, {"part": "chain"}, call, chain)
                    self.raises(BadChain, {"part": "chain"}, call, chain=tuple(chain))

    def test_twelve_places(self):
        self.same([is_chain(LONG), is_full(LONG), is_chain(FULL), is_full(FULL), is_full(FULL[:-1])],
                  [True, False, True, True, True])
        self.same([is_full(FULL[1:]), is_full(FULL[:5] + FULL[6:]), half_of(FULL), half_of(FULL[:7])], [False, False, "-", "+"])
        self.same(steps_of(FULL), tuple((at, "+-"[at % 2]) for at in range(12)))
        self.same(opposite_chain(opposite_chain(LONG)), LONG)

    def test_one_row_and_one_place(self):
        self.same([is_full(["+"]), is_full(("-",)), half_of(["-"]), steps_of(["-"]), opposite_chain(["-"])],
                  [True, True, "-", ((0, "-"),), ("+",)])
        self.same([half_of(["+00"]), steps_of(("-00",)), is_full(["0-0"]), is_full(["+-0"])], ["+", ((0, "-"),), False, False])

    def test_the_chain_may_change_after_the_call(self):
        chain = ["+0", "++"]
        got = [opposite_chain(chain), steps_of(chain)]
        chain.append("x")
        self.same(got, [("-0", "--"), ((0, "+"), (1, "+"))])


class FullChains(Case):
    def test_all_of_them_ascend(self):
        for places in (1, 2, 3):
            wanted = sorted(chain for chain in chains_by_hand(places) if len(chain) == places)
            self.same(full_chains(places), tuple(wanted))
            self.same(full_chains(places=places), tuple(wanted))

    def test_four_places(self):
        found = full_chains(4)
        self.same([len(found), sorted(set(found)) == list(found)], [384, True])
        self.assertTrue(all(is_full(chain) and len(chain) == 4 for chain in found))

    def test_as_many_of_each_half(self):
        for places in (1, 2, 3, 4):
            halves = [half_of(chain) for chain in full_chains(places)]
            self.same([halves.count("+"), halves.count("-")], [2**places * math.factorial(places) // 2] * 2)

    def test_each_comes_of_its_steps(self):
        for chain in full_chains(4) + full_chains(3):
            many = len(chain)
            steps = steps_of(chain)
            self.same(half_of(chain), chain[-1][many - 1])
            self.same(chain_of(many, steps), chain)
            self.same(chain_of(steps=[list(step) for step in steps], places=12), tuple(row + "0" * (12 - many) for row in chain))
            self.same(steps_of(chain_of(many + 1, steps)), steps)

    def test_wrong_places(self):
        for value in NO_INTEGERS + (0, 5, 12, -1, 10**99, -10**99):
            with self.subTest(value=value):
                self.raises(BadNumber, {"part": "places"}, full_chains, value)
                self.raises(BadNumber, {"part": "places"}, full_chains, places=value)


class ChainOf(Case):
    def test_the_edges(self):
        self.same([chain_of(1, [(0, "-")]), chain_of(12, ((0, "+"),))], [("-",), ("+" + "0" * 11,)])
        self.same(chain_of(12, [(at, "+-"[at % 2]) for at in range(12)]), FULL)

    def test_wrong_places_come_first(self):
        for value in NO_INTEGERS + (0, 13, -1, 10**99, -10**99):
            with self.subTest(value=value):
                self.raises(BadNumber, {"part": "places"}, chain_of, value, None)
                self.raises(BadNumber, {"part": "places"}, chain_of, steps=[(0, "+")], places=value)

    def test_wrong_steps(self):
        for value in NO_LISTS + (
            [], (), [(0, "+"), (0, "-")], [(1, "+")], [(0, "+"), (2, "+")], [(0, "+"), (1, "-"), (2, "+"), (3, "+")],
            [(0, "0")], [(0, "")], [(0, "+-")], [(0, None)], [(0, b"+")], [(0, ["+"])], [(0, Alike())], [("0", "+")], [(False, "+")],
            [(True, "+"), (0, "-")], [(-1, "+")], [(10**99, "+")], [(0.0, "+")], [(None, "+")], [(Alike(), "+")], [("+", 0)], ["0+"], ["+"],
            [()], [(0,)], [(0, "+", 1)], [0, "+"], [None], [[[0], "+"]], [[[0, "+"]]], [{0: "+"}], [(0, "+"), None], [(0, 1)],
        ):
            with self.subTest(value=value):
                self.raises(BadChain, {"part": "steps"}, chain_of, 3, value)
                self.raises(BadChain, {"part": "steps"}, chain_of, steps=value, places=3)

    def test_steps_may_change_after_the_call(self):
        steps = [[0, "+"], [1, "-"]]
        got = chain_of(2, steps)
        steps[0][1] = "-"
        self.same(got, ("+0", "+-"))


if __name__ == "__main__":
    unittest.main()
