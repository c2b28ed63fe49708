"""roomstair.tables: Tables, their labels and texts, opposed rows."""

import re
import unittest

from cases import NO_INTEGERS, NO_LISTS, NO_ROWS, NO_STRINGS, Case, below_by_hand, numbers, opposite_by_hand
from roomstair import chains, errors, rows, tables
from roomstair.errors import BadChain, BadLabelling, BadNumber, BadRow, BadTable, BadText, Misfit
from roomstair.fillings import Filling
from roomstair.rows import first_sign, rows_of, size_of, waves
from roomstair.tables import (Table, amounts_of, label_of, labels_of, opposed_pair, place_table, size_table,
                              wave_table)
from roomstair.teams import Teams
from test_chains import NO_CHAINS

MANY = {1: 1, 2: 4, 3: 13, 4: 40, 5: 121, 6: 364}
TWO = Table(2, [1, 2, 1, 2])
SHUT = Filling(Teams(2, [[0], [1]]), [1, 1])
NO_LABELLINGS = NO_LISTS + ([], [1], (), ["+"], [[1]], (2, (1, 2, 1, 2)), "2 / 1 2 1 2", Table, Teams(2, [[0]]))


def any_table(places, most, source):
    """A Table of labels from -most to most."""
    return Table(places, [(next(source) % most + 1) * (1 if next(source) % 2 else -1) for _ in range(MANY[places])])


def label_by_hand(table, row):
    """The label of a row by a Table, worked out without the program."""
    told = sorted(each for each in rows_of(table.places) if each.strip("0")[0] == "+")
    if row in told:
        return table.labels[told.index(row)]
    return -table.labels[told.index(opposite_by_hand(row))]


def opposed_by_hand(table):
    """The first pair of opposed rows of a Table, worked out without the program."""
    for one in rows_of(table.places):
        for other in rows_of(table.places):
            if below_by_hand(one, other) and label_of(table, one) == -label_of(table, other):
                return one, other
    return None


def wrong_item(text):
    """The item at which the text of a Table is wrong, worked out without the program; None if it is right."""
    items = text.split(" ")
    if not re.fullmatch("[1-6]", items[0]):
        return 0
    places = int(items[0])
    forms = ["[1-6]", "/"] + ["-?([1-9][0-9]{0,2}|1000)"] * MANY[places]
    for at, form in enumerate(forms):
        if at == len(items) or not re.fullmatch(form, items[at]):
            return at
    return None if len(items) == len(forms) else len(forms)


class Examples(Case):
    def test_the_examples(self):
        self.examples("""
>>> two = Table(2, [1, 2, 1, 2])
>>> [two.places, two.labels, str(two), Table.read(str(two)) == two, Table.read("1 / -7").labels, Table(labels=(5,), places=1) == Table(1, [-5])]
[2, (1, 2, 1, 2), '2 / 1 2 1 2', True, (-7,), False]
>>> [label_of(two, row) for row in ("++", "+-", "+0", "0+", "-+", "0-", "-0", "--")]
[1, 2, 1, 2, -2, -2, -1, -1]
>>> [labels_of(two, ["+0", "++"]), labels_of(labelling=two, chain=("0+", "-+")), labels_of(two, ["-+"]), label_of(row="-", labelling=Table(1, [5]))]
[(1, 1), (2, -2), (-2,), -5]
>>> [wave_table(2).labels, place_table(2).labels, size_table(places=2).labels, wave_table(1) == size_table(1), label_of(wave_table(5), "0-0+-"), len(wave_table(6).labels)]
[(1, 2, 1, 1), (1, 1, 1, 2), (2, 2, 1, 1), True, -3, 364]
>>> [opposed_pair(two), opposed_pair(Table(2, [1, -1, 1, 1])), opposed_pair(wave_table(4)), opposed_pair(table=size_table(2)), amounts_of(two), amounts_of(Table(2, [3, -3, 1, 3])), amounts_of(table=wave_table(3))]
[('0+', '-+'), ('+0', '+-'), None, None, (1, 2), (1, 3), (1, 2, 3)]
>>> Table(2, [1, 2, 1])
raises BadTable('labels')
>>> Table(1, [0])
raises BadTable('labels')
>>> Table.read("2 / 1 2 1")
raises BadText(0, 5)
>>> Table.read("1 / 0")
raises BadText(0, 2)
>>> label_of(two, "+")
raises Misfit('row')
>>> label_of(two, "00")
raises BadRow('row')
>>> labels_of(two, ["++", "+0"])
raises BadChain('chain')
>>> labels_of([1], ["+"])
raises BadLabelling('labelling')
""", {**vars(errors), **vars(tables)})


class Made(Case):
    def test_as_many_labels_as_rows(self):
        for places, many in MANY.items():
            for labels in ([1000] * many, (-1000,) * many, list(range(1, many + 1))):
                for table in (Table(places, labels), Table(labels=labels, places=places)):
                    self.same([table.places, table.labels], [places, tuple(labels)])
            for wrong in (many - 1, many + 1, 0, 2 * many, 3**places - 1):
                if wrong != many:
                    self.raises(BadTable, {"part": "labels"}, Table, places, [1] * wrong)

    def test_wrong_places_come_first(self):
        for value in NO_INTEGERS + (0, 7, 12, -1, 10**99, -10**99):
            with self.subTest(value=value):
                self.raises(BadNumber, {"part": "places"}, Table, value, None)
                self.raises(BadNumber, {"part": "places"}, Table, labels=[1], places=value)
                for call in (wave_table, place_table, size_table):
                    self.raises(BadNumber, {"part": "places"}, call, value)
                    self.raises(BadNumber, {"part": "places"}, call, places=value)

    def test_wrong_labels(self):
        for value in NO_LISTS:
            with self.subTest(value=value):
                self.raises(BadTable, {"part": "labels"}, Table, 1, value)
        for label in NO_INTEGERS + (0, 1001, -1001, 10**99, -10**99, (1, 2), [[1, 2]]):
            with self.subTest(label=label):
                self.raises(BadTable, {"part": "labels"}, Table, 1, [label])
                self.raises(BadTable, {"part": "labels"}, Table, labels=(1, 2, 1, label), places=2)
        self.raises(BadTable, {"part": "labels"}, Table, 2, [[1, 2, 1, 2]])

    def test_labels_are_copied(self):
        labels = [1, 2, 1, 2]
        table = Table(2, labels)
        labels[0] = 7
        labels.append(1)
        self.same([table.labels, label_of(table, "++"), table == TWO], [(1, 2, 1, 2), 1, True])

    def test_equal_if_places_and_labels_are(self):
        self.same([TWO == Table(2, (1, 2, 1, 2)), TWO == Table(2, [1, 2, 1, -2]), TWO != Table(2, [1, 2, 1, 2])],
                  [True, False, False])
        for value in (None, True, 2, "2 / 1 2 1 2", (2, (1, 2, 1, 2)), [1, 2, 1, 2], SHUT, object()):
            with self.subTest(value=value):
                self.same([TWO == value, value == TWO], [False, False])

    def test_all_labels_of_any_tables(self):
        source = numbers(1)
        for places in (1, 2, 3, 4):
            table = any_table(places, 1000, source)
            for row in rows_of(places):
                self.same(label_of(table, row), label_by_hand(table, row))

    def test_tables_by_waves_places_and_sizes(self):
        for places in MANY:
            by_waves, by_places, by_sizes = wave_table(places), place_table(places=places), size_table(places)
            for row in rows_of(places):
                turned = 1 if first_sign(row) == "+" else -1
                self.same(label_of(by_waves, row), turned * waves(row))
                self.same(label_of(by_places, row), turned * (1 + row.index(first_sign(row))))
                self.same(label_of(by_sizes, row), turned * size_of(row))
        self.same(opposed_pair(wave_table(6)), None)


class Texts(Case):
    def test_read_back(self):
        source = numbers(2)
        for places in MANY:
            for most in (1, 9, 10, 1000):
                table = any_table(places, most, source)
                text = str(table)
                self.same(text, f"{places} / " + " ".join(map(str, table.labels)))
                self.same([Table.read(text) == table, str(Table.read(text=text)) == text], [True, True])

    def test_what_is_no_string(self):
        for value in NO_STRINGS + (TWO, [str(TWO)], b"1 / 1"):
            with self.subTest(value=value):
                self.raises(BadText, {"line": 0, "item": 0}, Table.read, value)
                self.raises(BadText, {"line": 0, "item": 0}, Table.read, text=value)

    def test_some_items_told_outright(self):
        for text, item in (("", 0), (" ", 0), ("2", 1), ("2 ", 1), ("2 /", 2), ("2 / ", 2), ("7 / 1", 0), ("0 / 1", 0), ("1 / 1 ", 3),
                           ("1 / 1 1", 3), (" 1 / 1", 0), ("1  / 1", 1), ("1 /  1", 2), ("1/ 1", 0), ("1 / 1001", 2), ("1 / -1001", 2),
                           ("1 / 1\n", 2), ("1\t/ 1", 0), ("1 / +1", 2), ("1 / 01", 2), ("1 / -0", 2), ("1 / -", 2), ("1 / --1", 2),
                           ("-1 / 1", 0), ("01 / 1", 0), ("1 // 1", 1), ("1 / 1_0", 2), ("1 / 1.0", 2), ("2 / 1 2 3", 5)):
            with self.subTest(text):
                self.raises(BadText, {"line": 0, "item": item}, Table.read, text)

    def test_changed_texts(self):
        odd = ("", "0", "+1", "01", "-0", "--1", "-", "1-", "/", "//", "x", "1001", "-1001", "1000", "-1000", "10000", "7", "\u0661",
               "\u00b2", "\uff11", "1\n", "1.", "1e1", "0x1", "1_0", "9" * 5000, "-" + "9" * 5000, "2", "3")
        for table in (Table(1, [-7]), TWO, wave_table(3)):
            items = str(table).split(" ")
            for at in range(len(items) + 1):
                changed = [items[:at], items[:at] + items[at + 1:], items[:at + 1] + items[at:]]
                for each in odd:
                    changed.append(items[:at] + [each] + items[at:])
                    changed.append(items[:at] + [each] + items[at + 1:])
                for told in changed:
                    self.compare(" ".join(told))

    def compare(self, text):
        """See that the text is read, or refused at its first wrong item."""
        item = wrong_item(text)
        with self.subTest(text[:200]):
            if item is None:
                self.same(str(Table.read(text)), text)
            else:
                self.raises(BadText, {"line": 0, "item": item}, Table.read, text)

    def test_very_long_texts(self):
        for text, item in (("1 / " + "1" * 19000, 2), ("6 / " + "1 " * 9000, 366), (" " * 19999, 0), ("6 / " + "-" * 19000, 2),
                           ("1" * 20000, 0)):
            self.raises(BadText, {"line": 0, "item": item}, Table.read, text)


class Labels(Case):
    def test_no_labelling_comes_first(self):
        for value in NO_LABELLINGS:
            with self.subTest(value=value):
                self.raises(BadLabelling, {"part": "labelling"}, label_of, value, None)
                self.raises(BadLabelling, {"part": "labelling"}, label_of, row="+", labelling=value)
                self.raises(BadLabelling, {"part": "labelling"}, labels_of, value, None)
                self.raises(BadLabelling, {"part": "labelling"}, labels_of, chain=["+"], labelling=value)

    def test_no_row(self):
        for value in NO_ROWS:
            with self.subTest(value=value):
                for each in (TWO, SHUT):
                    self.raises(BadRow, {"part": "row"}, label_of, each, value)
                    self.raises(BadRow, {"part": "row"}, label_of, row=value, labelling=each)

    def test_no_chain(self):
        for value in NO_CHAINS:
            with self.subTest(value=value):
                for each in (TWO, SHUT):
                    self.raises(BadChain, {"part": "chain"}, labels_of, each, value)
                    self.raises(BadChain, {"part": "chain"}, labels_of, chain=value, labelling=each)

    def test_other_places(self):
        for row in ("+", "-0+", "0" * 11 + "+"):
            for each in (TWO, SHUT):
                self.raises(Misfit, {"part": "row"}, label_of, each, row)
                self.raises(Misfit, {"part": "chain"}, labels_of, each, [row])

    def test_labels_of_chains_in_order(self):
        self.same([labels_of(TWO, ("-0", "--")), labels_of(TWO, ["0-"]), labels_of(wave_table(3), ["0+0", "-++"])],
                  [(-1, -1), (-2,), (1, -2)])
        # The rows of a chain need not be of all sizes.
        self.same(labels_of(size_table(4), ["0-00", "+-0+"]), (-1, 3))

    def test_a_filling_is_a_labelling(self):
        self.same([label_of(SHUT, row) for row in rows_of(2)], [1, None, 1, None, -1, -1, 1, -1])
        self.same(labels_of(SHUT, ["0+", "-+"]), (1, None))


class Opposed(Case):
    def test_no_table(self):
        for value in NO_LABELLINGS + (SHUT,):
            with self.subTest(value=value):
                for call in (opposed_pair, amounts_of):
                    self.raises(BadTable, {"part": "table"}, call, value)
                    self.raises(BadTable, {"part": "table"}, call, table=value)

    def test_the_first_pair_of_any_tables(self):
        source = numbers(3)
        found = []
        for places in (1, 2, 2, 2, 2, 3, 3, 3):
            for most in (1, 2, 3, 6, 12):
                table = any_table(places, most, source)
                found.append(opposed_pair(table))
                self.same(found[-1], opposed_by_hand(table))
        self.assertTrue(None in found and len(set(found)) > 5)

    def test_fewer_amounts_than_places(self):
        source = numbers(4)
        for places in (2, 3, 4, 5):
            for _ in range(5):
                table = any_table(places, places - 1, source)
                self.assertLess(len(amounts_of(table)), places)
                self.assertIsNotNone(opposed_pair(table))

    def test_six_places(self):
        self.same([opposed_pair(Table(6, [1] * 363 + [-1])), opposed_pair(size_table(6))], [("0+++++", "-+++++"), None])
        self.same([amounts_of(size_table(6)), amounts_of(Table(6, [5, -5] * 182))], [(1, 2, 3, 4, 5, 6), (5,)])

    def test_amounts_ascend(self):
        self.same([amounts_of(Table(2, [1000, -1000, 7, -30])), amounts_of(Table(1, [-4]))], [(7, 30, 1000), (4,)])


if __name__ == "__main__":
    unittest.main()
