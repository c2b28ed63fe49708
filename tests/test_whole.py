"""What holds over the whole program: lists and tuples are alike, nothing that is passed is changed, calls made again."""

import unittest

from cases import Case
from roomstair.desk import Desk
from roomstair.errors import StairError
from roomstair.papers import Paper
from test_refused import CALLS, KINDS


def frozen(value):
    """A value with all that it holds, as tuples, so that a later change of it is seen."""
    if isinstance(value, (list, tuple)):
        return (type(value).__name__, *map(frozen, value))
    if isinstance(value, dict):
        return ("dict", *[(frozen(key), frozen(value[key])) for key in value])
    if hasattr(value, "__dict__") and not isinstance(value, type):
        return (type(value).__name__, frozen(vars(value)))
    return repr(value)


def turned(value, made):
    """The value with lists, or tuples, in the place of both, all the way in."""
    return made([turned(item, made) for item in value]) if isinstance(value, (list, tuple)) else value


class Whole(Case):
    def test_lists_and_tuples_are_alike(self):
        for call, told in CALLS.items():
            with self.subTest(call=call):
                values = [right for _, _, right in told]
                got = [call(*[turned(value, made) for value in values]) for made in (list, tuple)]
                self.same([got[0] == call(*values), got[1] == call(*values), frozen(got[0]) == frozen(got[1])], [True] * 3)

    def test_tuples_are_returned(self):
        for call, told in CALLS.items():
            got = call(*[right for _, _, right in told])
            held = [got, *vars(got).values()] if hasattr(got, "__dict__") else [got]
            for value in held:
                self.assertNotIsInstance(value, list, call)
            if isinstance(got, Paper):
                self.assertNotIn("list", repr(frozen(got.parts)))

    def test_what_is_passed_is_not_changed(self):
        for call, told in CALLS.items():
            values = [turned(right, list) for _, _, right in told]
            before = frozen(values)
            got = call(*values)
            self.same(frozen(values), before)
            # And what is returned hangs on no list that was passed.
            kept = frozen(got)
            for value in values:
                if isinstance(value, list):
                    value.append(None)
                    value.reverse()
            self.same(frozen(got), kept)

    def test_a_call_that_raises_an_error_changes_nothing(self):
        for call, told in CALLS.items():
            for at, (_, kind, _) in enumerate(told):
                for wrong in KINDS[kind][1][-3:] if kind else ():
                    values = [right for _, _, right in told]
                    values[at] = wrong
                    before = frozen(values)
                    with self.assertRaises(StairError):
                        call(*values)
                    self.same(frozen(values), before)

    def test_a_call_made_again_returns_an_equal_value(self):
        for call, told in CALLS.items():
            values = [right for _, _, right in told]
            self.same(frozen(call(*values)), frozen(call(*values)))

    def test_whether_something_is_so_is_true_or_false(self):
        told = [call(*[right for _, _, right in CALLS[call]]) for call in CALLS
                if call.__name__.startswith(("is_", "are_", "shows_")) or call.__name__ == "clashes"]
        self.assertGreater(len(told), 9)
        self.assertEqual({type(each) for each in told}, {bool})

    def test_a_deep_value_is_refused_or_wrong_as_any_other(self):
        deep = []
        for _ in range(29):
            deep = [deep]
        for call, told in CALLS.items():
            for at, (_, kind, _) in enumerate(told):
                values = [right for _, _, right in told]
                for value in (deep, [deep], "+" * 20000, [0] * 20000, ["+"] * 20000, 10**99):
                    values[at] = value
                    if kind is None:
                        self.same(call(*values), False)
                    elif kind != "labels" or not isinstance(value, list):
                        with self.assertRaises(StairError):
                            call(*values)
        desk = Desk()
        for value in (deep, "+" * 20000, "table " * 3000, "go " + "9" * 19000):
            with self.assertRaises(StairError):
                desk.told(value)


if __name__ == "__main__":
    unittest.main()
