"""roomstair.pictures: rows, chains and fillings as strings."""

import unittest

from cases import NO_ROWS, Case, numbers, some_teams
from roomstair import errors, fillings, pictures, tables, teams
from roomstair.errors import BadChain, BadFilling, BadLabelling, BadRow, Misfit
from roomstair.fillings import Filling
from roomstair.pictures import chain_picture, filling_picture, row_picture
from roomstair.rows import rows_of
from roomstair.tables import Table, label_of, wave_table
from roomstair.teams import Teams
from test_chains import FULL, LONG, NO_CHAINS, chains_by_hand
from test_stairs import NO_FILLINGS
from test_tables import NO_LABELLINGS, SHUT, TWO, any_table


def side_by_hand(row, sign):
    """The places of a side, - for none."""
    return " ".join(str(place) for place, each in enumerate(row) if each == sign) or "-"


def waves_by_hand(row):
    """How many stretches of like signs a row has."""
    signs = row.replace("0", "")
    return 1 + sum(one != other for one, other in zip(signs, signs[1:]))


def chain_by_hand(labelling, chain):
    """The picture of a chain, by the labels of its rows."""
    labels = [label_of(labelling, row) for row in chain]
    return tuple(f"{row} {waves_by_hand(row)} {'-' if label is None else label}" for row, label in zip(chain, labels))


class Examples(Case):
    def test_the_examples(self):
        self.examples("""
>>> [row_picture("+0-+"), row_picture("0-"), row_picture(row="+")]
['+0-+ left 0 3 right 2', '0- left - right 1', '+ left 0 right -']
>>> [chain_picture(Table(2, [1, 2, 1, 2]), ["0+", "-+"]), chain_picture(labelling=wave_table(3), chain=("0-0",))]
[('0+ 1 2', '-+ 2 -2'), ('0-0 1 -1',)]
>>> pairs = Filling(Teams(4, [(0, 1), (0, 2), (2, 3), (1, 3)]), [5, 2, 2, 5])
>>> [filling_picture(pairs), chain_picture(pairs, ["++00", "++--"])]
[('2 : 0 2 / 1 3', '5 : 0 1 / 2 3'), ('++00 1 8', '++-- 2 -')]
>>> row_picture("00")
raises BadRow('row')
>>> filling_picture([1, 2])
raises BadFilling('filling')
""", {**vars(errors), **vars(tables), **vars(teams), **vars(fillings), **vars(pictures)})


class Rows(Case):
    def test_all_rows_of_few_places(self):
        for places in (1, 2, 3, 4, 5):
            for row in rows_of(places):
                wanted = f"{row} left {side_by_hand(row, '+')} right {side_by_hand(row, '-')}"
                self.same([row_picture(row), row_picture(row=row)], [wanted, wanted])

    def test_rows_of_more_places(self):
        source = numbers(153)
        for places in range(6, 13):
            for _ in range(40):
                row = "".join("+-0"[next(source) % 3] for _ in range(places - 1)) + "+-"[next(source) % 2]
                self.same(row_picture(row), f"{row} left {side_by_hand(row, '+')} right {side_by_hand(row, '-')}")

    def test_twelve_places(self):
        self.same([row_picture("+" * 12), row_picture("-" * 12), row_picture("0" * 11 + "-"), row_picture("+-0" * 4)],
                  ["+" * 12 + " left 0 1 2 3 4 5 6 7 8 9 10 11 right -", "-" * 12 + " left - right 0 1 2 3 4 5 6 7 8 9 10 11",
                   "0" * 11 + "- left - right 11", "+-0" * 4 + " left 0 3 6 9 right 1 4 7 10"])

    def test_no_rows(self):
        for value in NO_ROWS:
            with self.subTest(value=value):
                self.raises(BadRow, {"part": "row"}, row_picture, value)
                self.raises(BadRow, {"part": "row"}, row_picture, row=value)


class Chains(Case):
    def test_all_chains_of_few_places(self):
        source = numbers(151)
        lacking = 0
        for places in (1, 2, 3):
            some = some_teams(places, 5, source)
            for labelling in (any_table(places, 1000, source), wave_table(places), Filling(some, [1] * some.many),
                              Filling(Teams(places, [[each] for each in range(places)]), [7] * places)):
                for chain in chains_by_hand(places):
                    wanted = chain_by_hand(labelling, chain)
                    self.same([chain_picture(labelling, chain), chain_picture(chain=list(chain), labelling=labelling)], [wanted, wanted])
                    lacking += any(line.endswith(" -") for line in wanted)
        self.assertGreater(lacking, 50)

    def test_twelve_places(self):
        alone = Filling(Teams(12, [[person] for person in range(12)]), list(range(489, 501)))
        for chain in (FULL, LONG, FULL[3:]):
            self.same(chain_picture(alone, chain), chain_by_hand(alone, chain))
        self.same(chain_picture(alone, FULL)[-1], "+-" * 6 + " 12 -500")

    def test_errors_in_their_order(self):
        for value in NO_LABELLINGS:
            with self.subTest(value=value):
                self.raises(BadLabelling, {"part": "labelling"}, chain_picture, value, None)
                self.raises(BadLabelling, {"part": "labelling"}, chain_picture, chain=["+"], labelling=value)
        for value in NO_CHAINS:
            with self.subTest(value=value):
                for each in (TWO, SHUT):
                    self.raises(BadChain, {"part": "chain"}, chain_picture, each, value)
                    self.raises(BadChain, {"part": "chain"}, chain_picture, chain=value, labelling=each)
        for chain in (["+"], ["+00"], ("+00", "++0"), FULL, LONG):
            for each in (TWO, SHUT):
                self.raises(Misfit, {"part": "chain"}, chain_picture, each, chain)
                self.raises(Misfit, {"part": "chain"}, chain_picture, chain=chain, labelling=each)


class Fillings(Case):
    def test_any_fillings(self):
        source = numbers(152)
        for people in (1, 2, 3, 5, 12):
            for most in (1, 2, 5, 500):
                some = some_teams(people, 12, source)
                filling = Filling(some, [next(source) % most + 1 for _ in range(some.many)])
                pairs = list(zip(filling.rooms, some.teams))
                wanted = tuple(f"{room} : " + " / ".join(" ".join(map(str, team)) for each, team in pairs if each == room)
                               for room in sorted({room for room, _ in pairs}))
                self.same([filling_picture(filling), filling_picture(filling=filling)], [wanted, wanted])

    def test_rooms_ascend_as_numbers(self):
        alone = Teams(3, [[0], [1], [2]])
        self.same([filling_picture(Filling(alone, [100, 20, 3])), filling_picture(Filling(alone, [500] * 3)), filling_picture(Filling(Teams(1, [[0]]), [1]))],
                  [("3 : 2", "20 : 1", "100 : 0"), ("500 : 0 / 1 / 2",), ("1 : 0",)])

    def test_five_hundred_teams(self):
        lots = [[person for person in range(12) if lot >> person & 1] for lot in range(1, 501)]
        some = Teams(12, lots)
        found = filling_picture(Filling(some, list(range(500, 0, -1))))
        self.same([len(found), found[0], found[-1]], [500, "1 : " + " ".join(map(str, some.teams[-1])), "500 : 0"])
        self.same(len(filling_picture(Filling(some, [9] * 500))), 1)

    def test_what_is_no_filling(self):
        for value in NO_FILLINGS:
            with self.subTest(value=value):
                self.raises(BadFilling, {"part": "filling"}, filling_picture, value)
                self.raises(BadFilling, {"part": "filling"}, filling_picture, filling=value)


if __name__ == "__main__":
    unittest.main()
