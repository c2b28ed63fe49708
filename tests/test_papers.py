"""roomstair.papers: word, parts, truth, equality, fixed."""

import unittest

from cases import Case
from roomstair import papers
from roomstair.climbs import Odd
from roomstair.hues import Piece, Same
from roomstair.papers import Denial, Paper, fixed
from roomstair.stairs import Clash, Stair
from roomstair.walks import Walk

# All classes of papers, with their words, their base and their parameters.
CLASSES = {
    Walk: ("walk", Paper, ["chains"]),
    Odd: ("odd", Paper, ["lone", "pairs"]),
    Stair: ("stair", Paper, ["steps"]),
    Clash: ("clash", Denial, ["one", "other"]),
    Piece: ("piece", Paper, ["hues", "points"]),
    Same: ("same", Denial, ["one", "other"]),
}
VALUES = (None, True, 0, -7, 1.5, "", "+0", b"x", [], [1, [2, (3, [4, []])]], ([1],), {"a": [1]}, {0: [[]]}, [{"a": [1]}], {1}, [[[[["x"]]]]])


class Note(Paper):
    """A class of papers as later modules have them."""

    def __init__(self, one, other):
        Paper.__init__(self, "note", one, other)
        self.one, self.other = self.parts


class Fixed(Case):
    def test_tuples_stand_for_lists_all_the_way_in(self):
        self.same(fixed([1, [2, (3, [4, []])], ()]), (1, (2, (3, (4, ()))), ()))
        self.same(fixed(value=([],)), ((),))

    def test_other_values_stay_the_very_values(self):
        for value in (None, True, 0, 1.5, "", "[]", b"+", {"a": [1]}, {1}, object(), len):
            with self.subTest(value=value):
                self.assertIs(fixed(value), value)
                self.assertIs(fixed([value])[0], value)

    def test_what_is_passed_is_not_changed(self):
        value = [1, [2], {"a": [3]}]
        got = fixed(value)
        self.assertEqual(value, [1, [2], {"a": [3]}])
        value[1].append(4)
        self.assertEqual(got[1], (2,))

    def test_thirty_levels(self):
        value, wanted = [], ()
        for _ in range(29):
            value, wanted = [value], (wanted,)
        self.same(fixed(value), wanted)


class Papers(Case):
    def test_the_examples(self):
        self.examples("""
>>> note = Paper("note", [1, (2, [3])])
>>> [note.parts, bool(note), bool(Denial("no")), note == Denial("note", [1, (2, [3])]), fixed([[], {"a": [1]}])]
[((1, (2, (3,))),), True, False, False, ((), {'a': [1]})]
""", vars(papers))

    def test_word_and_parts(self):
        for made in (Paper, Denial):
            self.same([made("note").word, made("note").parts], ["note", ()])
            self.same(made(word="note").word, "note")
            self.same(made("note", 1, None, [[2]], "x").parts, (1, None, ((2,),), "x"))
            self.same(made("note", [1], (1,)).parts, ((1,), (1,)))

    def test_parts_are_copied(self):
        rows = [[1]]
        note = Paper("note", rows)
        rows[0].append(2)
        rows.append(3)
        self.same(note.parts, (((1,),),))

    def test_a_paper_is_true_and_a_denial_false(self):
        self.same([bool(Paper("a")), bool(Paper("a", 0)), bool(Paper("", None))], [True] * 3)
        self.same([bool(Denial("a")), bool(Denial("a", 1)), bool(Denial("", True))], [False] * 3)

    def test_denials_are_below_papers(self):
        self.assertEqual(Denial.__bases__, (Paper,))
        self.assertTrue(isinstance(Denial("no"), Paper))
        self.assertFalse(isinstance(Paper("no"), Denial))

    def test_equal_if_class_word_and_parts_are(self):
        for made in (Paper, Denial):
            self.same(made("a", [1, [2]]) == made("a", (1, (2,))), True)
            self.same(made("a", 1) != made("a", 1), False)
            self.same(made("a", 1) == made("b", 1), False)
            self.same(made("a", 1) == made("a", 2), False)
            self.same(made("a", 1) == made("a"), False)
            self.same(made("a", 1, 2) == made("a", (1, 2)), False)

    def test_parts_are_compared_as_python_compares_them(self):
        self.same(Paper("a", True) == Paper("a", 1), True)
        self.same(Paper("a", "1") == Paper("a", 1), False)

    def test_papers_of_unlike_classes_are_not_equal(self):
        self.same([Paper("a") == Denial("a"), Denial("a") == Paper("a")], [False, False])
        self.same([Note(1, 2) == Paper("note", 1, 2), Paper("note", 1, 2) == Note(1, 2)], [False, False])
        self.same(Note(1, [2]) == Note(other=(2,), one=1), True)

    def test_not_equal_to_what_is_no_paper(self):
        for value in (None, True, False, 0, "a", ("a",), [], {}, object()):
            with self.subTest(value=value):
                self.same([Paper("a") == value, Denial("a") == value, value == Paper("a")], [False] * 3)

    def test_attributes_and_methods_stand_in_both_classes(self):
        for made in (Paper, Denial):
            self.assertEqual(sorted(vars(made("a", 1))), ["parts", "word"])
            for name in ("__init__", "__eq__", "__bool__"):
                self.assertIn(name, vars(made))


class AllClasses(Case):
    def test_made_by_place_and_by_name_with_any_values(self):
        for made, (word, base, names) in CLASSES.items():
            for at, value in enumerate(VALUES):
                told = [VALUES[(at + 5 * number) % len(VALUES)] for number in range(len(names))]
                for paper in (made(*told), made(**dict(reversed(list(zip(names, told)))))):
                    with self.subTest(made=made, told=told):
                        self.same([paper.word, paper.parts], [word, tuple(fixed(each) for each in told)])
                        self.same([getattr(paper, name) for name in names], [fixed(each) for each in told])
                        self.same([bool(paper), type(paper) is made, isinstance(paper, base)], [base is Paper, True, True])

    def test_which_are_below_which(self):
        self.assertEqual({made: made.__bases__ for made in CLASSES}, {made: (base,) for made, (_, base, _) in CLASSES.items()})
        self.assertEqual([set(Denial.__subclasses__()), Denial.__bases__], [{Clash, Same}, (Paper,)])
        own = [made for made in Paper.__subclasses__() if made.__module__.startswith("roomstair.")]
        self.assertEqual(set(own), {Denial, Walk, Odd, Stair, Piece})

    def test_equal_if_class_and_parts_are(self):
        for made, (word, base, names) in CLASSES.items():
            for value in VALUES:
                for other in VALUES:
                    told, changed = [value] * len(names), [value] * (len(names) - 1) + [other]
                    self.same([made(*told) == made(*changed), made(*told) != made(*changed)], [fixed(value) == fixed(other), fixed(value) != fixed(other)])
            self.same([made(*[[1, [2]]] * len(names)) == made(*[(1, (2,))] * len(names)), made(*names) == base(word, *names), base(word, *names) == made(*names)],
                      [True, False, False])

    def test_papers_of_unlike_classes_are_not_equal(self):
        for one, (word, _, names) in CLASSES.items():
            for other, (_, _, others) in CLASSES.items():
                if one is not other:
                    self.same([one(*[1] * len(names)) == other(*[1] * len(others)), other(*[1] * len(others)) == one(*[1] * len(names))], [False, False])
            for value in (None, True, False, 1, word, (1,), (word, 1), [], object(), one):
                self.same([one(*[1] * len(names)) == value, value == one(*[1] * len(names))], [False, False])

    def test_what_is_passed_may_change_afterwards(self):
        for made, (_, _, names) in CLASSES.items():
            told = [[[1], [2]] for _ in names]
            paper = made(*told)
            for each in told:
                each[0].append(3)
                each.append(4)
            self.same(paper.parts, (((1,), (2,)),) * len(names))


if __name__ == "__main__":
    unittest.main()
