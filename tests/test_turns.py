"""roomstair.turns: labels and chains by turns, clashes, climbs."""

import itertools
import unittest

from cases import NO_INTEGERS, NO_LISTS, Case, numbers, opposite_by_hand
from roomstair import errors, fillings, tables, teams, turns
from roomstair.errors import BadChain, BadLabelling, BadLabels, Misfit
from roomstair.fillings import Filling
from roomstair.tables import Table, labels_of, wave_table
from roomstair.teams import Teams
from roomstair.turns import by_turns, clashes, is_climb, turns_of
from test_chains import FULL, LONG, NO_CHAINS, chains_by_hand
from test_tables import NO_LABELLINGS, SHUT, TWO, any_table

OF_CHAINS = (turns_of, clashes, is_climb)


def turns_by_hand(labels):
    """The sign from which labels go by turns, worked out without the program."""
    amounts = sorted(map(abs, labels))
    if len(set(amounts)) < len(amounts):
        return None
    signs = "".join("+" if amount in labels else "-" for amount in amounts)
    return signs[0] if "++" not in signs and "--" not in signs else None


class Examples(Case):
    def test_the_examples(self):
        self.examples("""
>>> [by_turns([5]), by_turns((-7,)), by_turns([-2, 1]), by_turns([2, -3, -1]), by_turns([3, -1, 2]), by_turns([1, 1]), by_turns(labels=[4, -4])]
['+', '-', '+', '-', None, None, None]
>>> two, three = Table(2, [1, 2, 1, 2]), Table(2, [-2, 1, 1, 1])
>>> [clashes(two, ["+0", "++"]), clashes(two, ("0+", "-+")), clashes(two, ["-0", "-+"]), clashes(labelling=three, chain=["0-", "+-"])]
[False, True, False, True]
>>> [turns_of(two, ["+0", "++"]), turns_of(two, ["0-"]), turns_of(two, ["-0", "-+"]), turns_of(three, ["0+", "++"]), turns_of(chain=["-0", "--"], labelling=three)]
[None, '-', None, '+', '-']
>>> [is_climb(three, ["+0", "++"]), is_climb(three, ["-0", "--"]), is_climb(three, ["+0"]), is_climb(three, ["+0", "+-"]), is_climb(Table(1, [3]), ["-"])]
[True, True, False, False, True]
>>> shut = Filling(Teams(2, [[0], [1]]), [1, 1])
>>> [clashes(shut, ["0+", "-+"]), turns_of(shut, ["0+", "-+"]), clashes(shut, ["0+", "++"]), turns_of(shut, ["0+"])]
[True, None, False, '+']
>>> by_turns([1, 0])
raises BadLabels('labels')
>>> clashes(two, ["+"])
raises Misfit('chain')
>>> turns_of(two, ["+0", "0+"])
raises BadChain('chain')
""", {**vars(errors), **vars(tables), **vars(teams), **vars(fillings), **vars(turns)})


class ByTurns(Case):
    def test_all_short_lists(self):
        for many in (1, 2, 3, 4):
            for labels in itertools.product((-4, -3, -2, -1, 1, 2, 3, 4), repeat=many):
                self.same(by_turns(labels), turns_by_hand(labels))

    def test_any_order_and_any_size(self):
        great = 10**99
        self.same([by_turns([great]), by_turns((-great, great - 1)), by_turns([great, -great]), by_turns([great, 1 - great, 2])],
                  ["+", "+", None, "+"])
        climb = [(at + 1) * (-1) ** at for at in range(100)]
        self.same([by_turns(climb), by_turns(labels=climb[::-1]), by_turns([-label for label in climb])], ["+", "+", "-"])
        self.same([by_turns(climb + [101, 102]), by_turns(climb + [101, 101]), by_turns(climb[:50] + climb[51:])], [None] * 3)

    def test_wrong_labels(self):
        for value in NO_LISTS + ([], ()):
            with self.subTest(value=value):
                self.raises(BadLabels, {"part": "labels"}, by_turns, value)
                self.raises(BadLabels, {"part": "labels"}, by_turns, labels=value)
        for label in NO_INTEGERS + (0,):
            with self.subTest(label=label):
                self.raises(BadLabels, {"part": "labels"}, by_turns, [label])
                self.raises(BadLabels, {"part": "labels"}, by_turns, labels=(1, -2, label))

    def test_what_is_passed_is_not_changed(self):
        labels = [3, -2, 1]
        self.same([by_turns(labels), labels], ["+", [3, -2, 1]])


class OfChains(Case):
    def test_all_chains_of_any_tables(self):
        source = numbers(5)
        seen = set()
        for places in (1, 2, 3):
            every = chains_by_hand(places)
            for most in (1, 2, 4, 1000):
                table = any_table(places, most, source)
                for chain in every:
                    told = labels_of(table, chain)
                    turned = turns_by_hand(told)
                    clash = any(one == -other for one, other in itertools.combinations(told, 2))
                    self.same([call(table, chain) for call in OF_CHAINS],
                              [turned, clash, turned is not None and len(chain) == places])
                    self.assertFalse(clash and turned)
                    seen.add((turned, clash))
        self.assertEqual(len(seen), 4)

    def test_the_opposite_chain_goes_the_other_way(self):
        table = any_table(3, 3, numbers(6))
        for chain in chains_by_hand(3):
            turned = {"+": "-", "-": "+", None: None}[turns_of(table, chain)]
            mirror = [opposite_by_hand(row) for row in chain]
            self.same([turns_of(table, mirror), clashes(table, mirror), is_climb(table, mirror)],
                      [turned, clashes(table, chain), is_climb(table, chain)])

    def test_a_chain_with_a_row_without_label(self):
        self.same([call(SHUT, ["-+"]) for call in OF_CHAINS], [None, True, False])
        self.same([call(SHUT, ("+0", "+-")) for call in OF_CHAINS], [None, True, False])
        self.same([call(SHUT, ("+0",)) for call in OF_CHAINS], ["+", False, False])

    def test_a_filling_has_climbs(self):
        good = Filling(Teams(2, [[0], [1]]), [1, 2])
        self.same([call(good, ["-0", "-+"]) for call in OF_CHAINS], ["-", False, True])
        self.same([call(good, ["0+", "-+"]) for call in OF_CHAINS], [None, False, False])

    def test_twelve_places(self):
        alone = Filling(Teams(12, [[person] for person in range(12)]), list(range(1, 13)))
        self.same([call(alone, FULL) for call in OF_CHAINS], ["+", False, True])
        self.same([call(alone, FULL[1:]) for call in OF_CHAINS], ["-", False, False])
        self.same([call(alone, LONG) for call in OF_CHAINS], [None, False, False])

    def test_errors_in_their_order(self):
        for call in OF_CHAINS:
            for value in NO_LABELLINGS:
                with self.subTest(call=call, value=value):
                    self.raises(BadLabelling, {"part": "labelling"}, call, value, None)
                    self.raises(BadLabelling, {"part": "labelling"}, call, chain=["+0"], labelling=value)
            for value in NO_CHAINS:
                with self.subTest(call=call, value=value):
                    for each in (TWO, SHUT):
                        self.raises(BadChain, {"part": "chain"}, call, each, value)
                        self.raises(BadChain, {"part": "chain"}, call, chain=value, labelling=each)
            for value in (["+"], ["+00"], ("+00", "++0"), LONG):
                for each in (TWO, SHUT):
                    self.raises(Misfit, {"part": "chain"}, call, each, value)
                    self.raises(Misfit, {"part": "chain"}, call, chain=value, labelling=each)

    def test_waves_have_one_climb_of_each_sign(self):
        climbs = [chain for chain in chains_by_hand(3) if is_climb(wave_table(3), chain)]
        self.same(sorted(climbs), [("00+", "0-+", "+-+"), ("00-", "0+-", "-+-")])


if __name__ == "__main__":
    unittest.main()
