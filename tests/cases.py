"""What the tests share: values of wrong kinds, errors with their fields, examples as the document writes them."""

import unittest

from roomstair.teams import Teams


class Alike:
    """A value that says of itself that it is equal to any other one."""

    def __eq__(self, other):
        return True

    def __hash__(self):
        return 0


# Nothing of this is an integer, a string, a list or a tuple.
STRANGE = (None, True, False, 1.0, float("nan"), b"+", {}, {"a": [1]}, {0: "+"}, {1}, range(2), object(), int, len,
           Alike())
# No lists or tuples.
NO_LISTS = STRANGE + (0, 1, -1, 10**99, "", "+", "0", "+0", "1 2")
# No integers.
NO_INTEGERS = STRANGE + ("", "1", "+", [], [1], (1,), [[1]])
# No strings.
NO_STRINGS = STRANGE + (0, 1, -1, 10**99, [], ["+"], ("+",), [["+"]])
# No rows, whatever the number of places.
NO_ROWS = NO_STRINGS + ("", "0", "00", "0" * 12, "+" * 13, "+" * 20000, "+ -", " +", "+\n", "x", "1", "++a", "\u2212", "\uff0b")


class Case(unittest.TestCase):
    """A test case that also compares errors with their fields, and runs examples."""

    def raises(self, error, fields, call, *args, **named):
        """See that the call raises just this error, with just these fields."""
        with self.assertRaises(error) as caught:
            call(*args, **named)
        self.assertIs(type(caught.exception), error)
        self.assertEqual(vars(caught.exception), fields)

    def same(self, got, wanted):
        """See that two values are equal, and of the same kinds all the way in."""
        self.assertEqual(repr(got), repr(wanted))

    def examples(self, text, names):
        """Run examples as the document writes them; the names are those that they use."""
        names = dict(names)
        blocks = [block for block in text.strip().split(">>> ") if block]
        for block in blocks:
            source, _, wanted = block.strip().partition("\n")
            with self.subTest(source):
                self.example(source, wanted, names)

    def example(self, source, wanted, names):
        """Run one example: an assignment, a value, or an error."""
        if not wanted:
            exec(source, names)
        elif wanted.startswith("raises "):
            error = eval(wanted.partition(" ")[2], names)
            self.raises(type(error), vars(error), eval, source, names)
        else:
            self.assertEqual(repr(eval(source, names)), wanted)


def opposite_by_hand(row):
    """The opposite row, worked out without the program."""
    return row.replace("+", "x").replace("-", "+").replace("x", "-")


def below_by_hand(one, other):
    """Whether a row is below another one of as many places, worked out without the program."""
    return one != other and all(sign in ("0", above) for sign, above in zip(one, other))


def numbers(seed):
    """Numbers without end, below 2 ** 31, always the same ones for a seed."""
    while True:
        seed = (seed * 1103515245 + 12345) % 2**31
        yield seed >> 8


def some_teams(people, many, source):
    """Teams of up to so many lots of people."""
    lots = [[person for person in range(people) if next(source) % 5 < 2] for _ in range(many)]
    return Teams(people, sorted({tuple(lot) for lot in lots if lot} | {tuple(range(people))}))
