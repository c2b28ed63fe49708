"""Tables give each row a label, told label by label; labellings are Tables and Fillings."""

from roomstair.chains import want_chain
from roomstair.checks import is_list, is_within
from roomstair.errors import BadLabelling, BadTable, BadText, Misfit
from roomstair.fillings import Filling
from roomstair.rows import MOST_LISTED, first_sign, opposite, rows_above, rows_of, size_of, want_row, waves
from roomstair.texts import items_of, want_end, want_integer, want_word

MOST_LABEL = 1000


def told_rows(places):
    """The rows by whose labels a Table is told: those whose first sign is +, ascending.

    As by rows_of: BadNumber("places") for none from 1 to 6, which a Table may have.
    """
    return [row for row in rows_of(places) if first_sign(row) == "+"]


def is_label(value):
    """Whether any value is a label that a Table may have."""
    return is_within(value, -MOST_LABEL, MOST_LABEL) and value != 0


def are_table_labels(value, many):
    """Whether any value is a list of just so many labels that a Table may have."""
    return is_list(value) and len(value) == many and all([is_label(label) for label in value])


def want_label(items, at):
    """The label of a Table that stands at an index of the items of a text."""
    label = want_integer(items, at, -MOST_LABEL, MOST_LABEL)
    if label == 0:
        raise BadText(0, at)
    return label


class Table:
    """A labelling of all rows of so many places."""

    def __init__(self, places, labels):
        rows = told_rows(places)
        if not are_table_labels(labels, len(rows)):
            raise BadTable("labels")
        self.places = places
        self.labels = tuple(labels)
        self._by_row = {}
        for row, label in zip(rows, self.labels):
            self._by_row[row] = label
            self._by_row[opposite(row)] = -label

    def __eq__(self, other):
        return isinstance(other, Table) and self.places == other.places and self.labels == other.labels

    def __str__(self):
        return " ".join([str(self.places), "/", *[str(label) for label in self.labels]])

    @staticmethod
    def read(text):
        """The Table whose text this is."""
        return table_from(items_of(text), 0)

    def label(self, row):
        """The label of a row of as many places."""
        return self._by_row[row]


def table_from(items, start):
    """The Table whose text the items from an index on are."""
    places = want_integer(items, start, 1, MOST_LISTED)
    want_word(items, start + 1, "/")
    end = start + 2 + len(told_rows(places))
    labels = [want_label(items, at) for at in range(start + 2, end)]
    want_end(items, end)
    return Table(places, labels)


def want_labelling(value):
    """Raise BadLabelling("labelling") for neither a Table nor a Filling."""
    if not isinstance(value, (Table, Filling)):
        raise BadLabelling("labelling")


def want_table(value):
    """Raise BadTable("table") for no Table."""
    if not isinstance(value, Table):
        raise BadTable("table")


def label_of(labelling, row):
    """The label of a row, None if it has none."""
    want_labelling(labelling)
    want_row(row, "row")
    if len(row) != labelling.places:
        raise Misfit("row")
    return labelling.label(row)


def labels_of(labelling, chain):
    """The labels of the rows of a chain, in order, with None for each that has none."""
    want_labelling(labelling)
    want_chain(chain, "chain")
    if len(chain[0]) != labelling.places:
        raise Misfit("chain")
    return tuple([labelling.label(row) for row in chain])


def wave_table(places):
    """The Table by which the label of each row is its waves, with its first sign."""
    return Table(places, [waves(row) for row in told_rows(places)])


def place_table(places):
    """The Table by the least place that has not the sign 0, and 1, with the sign there."""
    return Table(places, [row.index("+") + 1 for row in told_rows(places)])


def size_table(places):
    """The Table by which the label of each row is its size, with its first sign."""
    return Table(places, [size_of(row) for row in told_rows(places)])


def opposed_pair(table):
    """The first pair of opposed rows, the one below the other; None if there is none."""
    want_table(table)
    for row in rows_of(table.places):
        for upper in rows_above(row):
            if table.label(row) == -table.label(upper):
                return row, upper
    return None


def amounts_of(table):
    """The unlike amounts of the labels, ascending."""
    want_table(table)
    return tuple(sorted({abs(label) for label in table.labels}))
