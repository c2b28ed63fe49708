"""roomstair.walks: steps, walks, walks back."""

import unittest

from cases import NO_INTEGERS, Case, numbers, some_teams
from roomstair import chains, errors, fillings, tables, teams, walks
from roomstair.chains import full_chains, half_of, is_full, opposite_chain
from roomstair.doors import beyond
from roomstair.errors import BadChain, BadLabelling, BadNumber, Misfit, TooMany
from roomstair.fillings import Filling
from roomstair.papers import Denial, Paper
from roomstair.tables import Table, labels_of, opposed_pair, place_table, size_table, wave_table
from roomstair.teams import Teams
from roomstair.turns import clashes, is_climb, turns_of
from roomstair.walks import Walk, back_of, end_of, step, walk_of, walked
from test_chains import FULL, LONG, NO_CHAINS, NOT_FULL, chains_by_hand
from test_tables import NO_LABELLINGS, SHUT, TWO, any_table
from test_turns import turns_by_hand

ANY = object()
RING = Teams(12, [(person, (person + 1) % 12) for person in range(12)])
# Rooms of the ring by which its walk has so many chains.
WALKS = {
    1999: (22, 3, 5, 4, 8, 2, 24, 1, 11, 20, 17, 14),
    2000: (23, 1, 5, 17, 2, 12, 14, 3, 16, 6, 10, 21),
    2001: (17, 15, 13, 6, 5, 4, 2, 19, 11, 21, 14, 23),
    2002: (1, 3, 18, 8, 24, 20, 13, 14, 12, 21, 22, 2),
}


def unopposed_table(places, most, source):
    """A Table of labels from -most to most, or somewhat beyond, in which no two rows are opposed."""
    told = [row for row in tables.rows_of(places) if row.strip("0")[0] == "+"]
    labels = {}
    for row in sorted(told, key=lambda each: next(source)):
        barred = {-turned * label for other, label in labels.items() for turned in (1, -1) if is_near(row, other, turned)}
        choices = [turned * amount for amount in range(1, most + 1) for turned in (1, -1) if turned * amount not in barred]
        labels[row] = choices[next(source) % len(choices)] if choices else 900 + len(labels)
    return Table(places, [labels[row] for row in told])


def is_near(row, other, turned):
    """Whether one of two rows is below the other one, the other row perhaps turned about."""
    other = other if turned == 1 else chains.opposite(other)
    return chains.lies_below(row, other) or chains.lies_below(other, row)


def without(chain, index):
    """What is left of a chain without the row with this index."""
    return tuple(chain[:index]) + tuple(chain[index + 1:])


def step_by_hand(labelling, chain, came):
    """Where the walk goes from a d-chain, as the document tells it; ANY if it cannot have come so."""
    told, many = labels_of(labelling, chain), len(chain)
    if None in told or any(-label in told for label in told):
        return None
    turns = turns_by_hand(told)
    doors = [at for at in range(many) if many > 1 and turns_by_hand(without(told, at)) == half_of(chain)]
    if came not in doors + [None] or (came is None and many > 1 and turns is None):
        return ANY
    if turns and (came is not None or many == 1):
        last = chain[-1]
        return None if many == labelling.places else (chain + (last[:many] + turns + last[many + 1:],), many)
    other = [at for at in doors if at != came]
    assert len(other) == 1
    found = beyond(chain, other[0])
    return (without(chain, other[0]), None) if found is None else (found, other[0])


def walk_by_hand(labelling, chain=None):
    """All chains of the walk, or of the walk back from a climb, by single steps."""
    back = chain is not None
    if not back:
        first = [(sign + "0" * (labelling.places - 1),) for sign in "+-"]
        chain = [each for each in first if labels_of(labelling, each)[0] > 0][0]
    found, came = [chain], None
    while not back or len(chain) > 1:
        told = step_by_hand(labelling, chain, came)
        if told is None:
            break
        chain, came = told
        found.append(chain)
    return tuple(found)


def some_fillings(source):
    """Fillings of few and of many people."""
    found = [SHUT, Filling(Teams(2, [[0], [1]]), [1, 2]), Filling(Teams(1, [[0]]), [500])]
    for people in (1, 2, 3, 4, 6, 9, 12):
        for most in (1, 3, 500):
            some = some_teams(people, 9, source)
            found.append(Filling(some, [next(source) % most + 1 for _ in range(some.many)]))
    return found


def some_tables(source):
    """Tables of 1 to 6 places, with opposed rows and without."""
    found = [Table(1, [1]), Table(1, [-1000]), TWO]
    for places in (1, 2, 3, 4, 5, 6):
        found += [wave_table(places), place_table(places), size_table(places)]
        found += [any_table(places, most, source) for most in (1, 2, places, 10, 1000)]
        if places < 5:
            found += [unopposed_table(places, most, source) for most in (places, places + 1, 10, 100)]
    return found


class Examples(Case):
    def test_the_examples(self):
        self.examples("""
>>> two = Table(2, [1, 2, 1, 2])
>>> [walk_of(two), end_of(two)]
[(('+0',), ('+0', '++'), ('0+', '++'), ('0+', '-+')), (4, ('0+', '-+'))]
>>> [step(two, ["+0"], None), step(two, ("+0", "++"), 1), step(two, ["0+", "++"], 0), step(two, ["0+", "-+"], 1)]
[(('+0', '++'), 1), (('0+', '++'), 0), (('0+', '-+'), 1), None]
>>> three = Table(3, [-1, -2, -3, -2, -3, 1, 3, 2, -2, -1, 2, 2, 3])
>>> walk_of(three)[:4]
(('-00',), ('-00', '-+0'), ('-00', '-+0', '-+-'), ('0+0', '-+0', '-+-'))
>>> walk_of(labelling=three)[4:]
(('0+0', '-+0'), ('0+0', '++0'), ('0+0', '++0', '+++'))
>>> [step(three, ["0+0", "-+0", "-+-"], 0), step(three, ["0+0", "-+0"], None), step(three, ["0+0", "-+0"], 1), step(came=2, chain=["0+0", "++0", "+++"], labelling=three)]
[(('0+0', '-+0'), None), (('0+0', '++0'), 1), (('0+0', '-+0', '-+-'), 2), None]
>>> [step(three, ["0+0", "++0", "+++"], None), walk_of(Table(1, [-7])), end_of(wave_table(5)), len(walk_of(wave_table(4)))]
[(('0+0', '++0'), None), (('-',),), (45, ('0000+', '000-+', '00+-+', '0-+-+', '+-+-+')), 24]
>>> [walk_of(Filling(Teams(2, [[0], [1]]), [1, 2])), walked(Filling(Teams(2, [[0], [1]]), [1, 1])).chains[-1], walked(two) == Walk(walk_of(two))]
[(('+0',), ('+0', '++'), ('0+', '++'), ('0+', '-+'), ('-0', '-+')), ('0+', '-+'), True]
>>> many = Table(3, [-3, 3, -1, -3, 1, 2, -3, 1, 2, -3, -2, -2, -1])
>>> [back_of(many, walk_of(many)[-1]) == walk_of(many)[::-1], len(walk_of(many)), len(back_of(many, ["-00", "--0", "---"])), back_of(many, ["-00", "--0", "---"])[-1], back_of(Table(1, [5]), ["-"])]
[True, 6, 7, ('00-', '0+-', '-+-'), (('-',),)]
>>> step(two, ["+0", "++"], None)
raises Misfit('came')
>>> step(two, ["+0"], 0)
raises Misfit('came')
>>> step(two, ["+0"], 1)
raises BadNumber('came')
>>> step(two, ["+00"], None)
raises Misfit('chain')
>>> back_of(two, ["+0", "++"])
raises Misfit('climb')
""", {**vars(errors), **vars(tables), **vars(teams), **vars(fillings), **vars(walks)})


class Steps(Case):
    def look_at(self, labelling, chain):
        """See that the walk goes on from a d-chain as told, however it came; what kinds of steps there were."""
        seen = set()
        for came in (None, *range(len(chain))):
            wanted = step_by_hand(labelling, chain, came)
            if wanted is ANY:
                self.raises(Misfit, {"part": "came"}, step, labelling, chain, came)
                self.raises(Misfit, {"part": "came"}, step, came=came, chain=list(chain), labelling=labelling)
                seen.add("misfit")
                continue
            got = step(labelling, chain, came)
            self.same([got, step(came=came, chain=list(chain), labelling=labelling)], [wanted, wanted])
            seen.add("end" if got is None else len(got[0]) - len(chain))
            if got is None and clashes(labelling, chain):
                seen.add("clash")
        return seen

    def test_all_d_chains_of_any_tables(self):
        source = numbers(21)
        seen = set()
        for places in (1, 2, 3):
            every = [chain for chain in chains_by_hand(places) if is_full(chain)]
            for most in (1, 2, 3, 5, 1000):
                for table in (any_table(places, most, source), unopposed_table(places, most, source)):
                    for chain in every:
                        seen |= self.look_at(table, chain)
        self.assertEqual(seen, {"misfit", "end", "clash", 1, 0, -1})

    def test_all_d_chains_of_a_filling(self):
        seen = set()
        pairs = Teams(4, [(0, 1), (0, 2), (0, 3), (1, 2), (1, 3), (2, 3)])
        for rooms in ([1, 1, 1, 2, 2, 1], [3, 1, 4, 1, 5, 9]):
            for chain in chains_by_hand(4)[::2]:
                if is_full(chain):
                    seen |= self.look_at(Filling(pairs, rooms), chain)
        self.assertEqual(seen, {"misfit", "end", "clash", 1, 0, -1})

    def test_along_all_walks(self):
        source = numbers(22)
        seen = set()
        for labelling in some_tables(source) + some_fillings(source):
            for chain in walk_by_hand(labelling)[:20]:
                seen |= self.look_at(labelling, chain)
        self.assertEqual(seen, {"misfit", "end", "clash", 1, 0, -1})

    def test_one_place(self):
        for table in (Table(1, [5]), Table(1, [-5]), Filling(Teams(1, [[0]]), [3])):
            for chain in (["+"], ("-",)):
                self.same(step(table, chain, None), None)
                self.raises(Misfit, {"part": "came"}, step, table, chain, 0)

    def test_both_1_chains_go_up(self):
        self.same([step(TWO, ["+0"], None), step(TWO, ("-0",), None)], [(("+0", "++"), 1), (("-0", "--"), 1)])

    def test_a_chain_that_clashes_ends_the_walk_however_it_came(self):
        self.same([step(TWO, ["0+", "-+"], came) for came in (None, 0, 1)], [None] * 3)
        self.same([step(SHUT, ["0+", "-+"], came) for came in (None, 0, 1)], [None] * 3)
        self.raises(BadNumber, {"part": "came"}, step, TWO, ["0+", "-+"], 2)

    def test_what_is_passed_is_not_changed(self):
        chain = ["+0", "++"]
        got = step(TWO, chain, 1)
        self.assertEqual(chain, ["+0", "++"])
        chain[1] = "+-"
        self.same(got, (("0+", "++"), 0))

    def test_errors_in_their_order(self):
        for value in NO_LABELLINGS:
            with self.subTest(value=value):
                self.raises(BadLabelling, {"part": "labelling"}, step, value, None, "x")
                self.raises(BadLabelling, {"part": "labelling"}, step, came=None, chain=["+0"], labelling=value)
        for value in NO_CHAINS + NOT_FULL + (LONG,):
            with self.subTest(value=value):
                for each in (TWO, SHUT):
                    self.raises(BadChain, {"part": "chain"}, step, each, value, "x")
                    self.raises(BadChain, {"part": "chain"}, step, came=None, chain=value, labelling=each)
        for value in [each for each in NO_INTEGERS if each is not None] + [-1, 2, -2, 10**99, -10**99]:
            with self.subTest(value=value):
                for each in (TWO, SHUT):
                    self.raises(BadNumber, {"part": "came"}, step, each, ["+0", "++"], value)
                    self.raises(BadNumber, {"part": "came"}, step, came=value, chain=("+00", "++0"), labelling=each)
        for chain in (["+"], ["+00"], ("+00", "++0"), FULL):
            for came in (None, 0):
                self.raises(Misfit, {"part": "chain"}, step, TWO, chain, came)
                self.raises(Misfit, {"part": "chain"}, step, SHUT, chain, came)


class Walks(Case):
    def test_walks_of_tables(self):
        source = numbers(23)
        seen = set()
        for table in some_tables(source):
            seen.add(self.look_at(table))
            if table.places < 5 and opposed_pair(table) is None:
                self.assertTrue(is_climb(table, walk_of(table)[-1]))
        self.assertEqual(seen, {True, False})

    def test_walks_of_fillings(self):
        self.assertEqual({self.look_at(filling) for filling in some_fillings(numbers(24))}, {True, False})

    def look_at(self, labelling):
        """See that the walk is as told; whether it ends at a climb."""
        wanted = walk_by_hand(labelling)
        self.same([walk_of(labelling), walk_of(labelling=labelling)], [wanted, wanted])
        self.same([end_of(labelling), end_of(labelling=labelling)], [(len(wanted), wanted[-1])] * 2)
        paper = walked(labelling)
        self.same([paper.chains, walked(labelling=labelling) == paper, paper == Walk(wanted)], [wanted, True, True])
        self.assertEqual(len(set(wanted)), len(wanted))
        self.assertTrue(all(is_full(chain) for chain in wanted))
        climbed = is_climb(labelling, wanted[-1])
        self.assertNotEqual(climbed, clashes(labelling, wanted[-1]))
        for chain in wanted[:-1]:
            self.assertFalse(clashes(labelling, chain))
        if climbed:
            self.same(back_of(labelling, wanted[-1]), wanted[::-1])
        return climbed

    def test_six_places(self):
        self.same([end_of(wave_table(6)), end_of(size_table(6)), end_of(place_table(6))], [
            (76, ("00000+", "0000-+", "000+-+", "00-+-+", "0+-+-+", "-+-+-+")),
            (76, walk_by_hand(size_table(6))[-1]), (56, walk_by_hand(place_table(6))[-1])])

    def test_the_bound_of_chains(self):
        for many, rooms in WALKS.items():
            filling = Filling(RING, rooms)
            count, last = end_of(filling)
            self.same([count, is_climb(filling, last)], [many, True])
            if many <= 2000:
                found = walk_of(filling)
                self.same([len(found), found[-1], walked(filling).chains == found], [many, last, True])
                self.same(back_of(filling, last), found[::-1])
                continue
            for call in (walk_of, walked):
                self.raises(TooMany, {"what": "chains", "most": 2000}, call, filling)
                self.raises(TooMany, {"what": "chains", "most": 2000}, call, labelling=filling)
            self.raises(TooMany, {"what": "chains", "most": 2000}, back_of, filling, last)
            self.raises(TooMany, {"what": "chains", "most": 2000}, back_of, climb=list(last), labelling=filling)

    def test_long_walks_by_many_teams(self):
        some = Teams(12, [(one, other) for one in range(12) for other in range(one)] + [(at,) for at in range(12)][::2])
        filling = Filling(some, [at * 37 % 72 + 1 for at in range(some.many)])
        many, last = end_of(filling)
        self.assertGreater(many, 300)
        self.assertTrue(is_climb(filling, last))

    def test_no_labelling(self):
        for value in NO_LABELLINGS:
            with self.subTest(value=value):
                for call in (walk_of, end_of, walked):
                    self.raises(BadLabelling, {"part": "labelling"}, call, value)
                    self.raises(BadLabelling, {"part": "labelling"}, call, labelling=value)


class Back(Case):
    def look_at(self, labelling):
        """See that the walks back from all climbs are as told; at what they end."""
        seen = set()
        walk = walk_of(labelling)
        for climb in full_chains(labelling.places):
            if not is_climb(labelling, climb):
                self.raises(Misfit, {"part": "climb"}, back_of, labelling, climb)
                continue
            wanted = walk_by_hand(labelling, climb)
            self.same([back_of(labelling, climb), back_of(climb=list(climb), labelling=labelling)], [wanted, wanted])
            end = wanted[-1]
            kinds = [clashes(labelling, end), is_climb(labelling, end) and end != climb, len(end) == 1]
            self.same(kinds.count(True), 1)
            self.assertEqual(len(set(wanted)), len(wanted))
            if kinds[1]:
                self.assertNotEqual(end, opposite_chain(climb))
                self.same(back_of(labelling, end), wanted[::-1])
            if kinds[2]:
                self.assertIn(wanted[::-1], (walk, tuple(opposite_chain(chain) for chain in walk)))
            seen.add(kinds.index(True))
        return seen

    def test_from_all_climbs_of_any_tables(self):
        source = numbers(25)
        seen = set()
        for places in (1, 2, 3, 4):
            for most in (places, places + 1, 1000) + (places,) * 4:
                seen |= self.look_at(any_table(places, most, source))
                free = self.look_at(unopposed_table(places, most, source))
                self.assertTrue(free <= {1, 2} and 2 in free)
                seen |= free
        self.assertEqual(seen, {0, 1, 2})

    def test_from_all_climbs_of_any_fillings(self):
        seen = set()
        for filling in some_fillings(numbers(26)):
            if filling.teams.people < 5:
                seen |= self.look_at(filling)
        self.assertTrue(seen >= {1, 2})

    def test_one_place(self):
        for table in (Table(1, [5]), Table(1, [-5]), Filling(Teams(1, [[0]]), [3])):
            self.same([back_of(table, ["+"]), back_of(climb=("-",), labelling=table)], [(("+",),), (("-",),)])

    def test_what_is_no_climb(self):
        good = Filling(Teams(2, [[0], [1]]), [1, 2])
        self.same(back_of(good, ["-0", "-+"]), walk_of(good)[::-1])
        for chain in (["+0"], ["++"], ["+0", "++"], ["0+", "-+"], ["+"], ["+00"], ("+00", "++0", "+++"), FULL, LONG):
            for each in (TWO, SHUT, good):
                if not (each is good and turns_of_two(good, chain)):
                    self.raises(Misfit, {"part": "climb"}, back_of, each, chain)
                    self.raises(Misfit, {"part": "climb"}, back_of, climb=chain, labelling=each)

    def test_errors_in_their_order(self):
        for value in NO_LABELLINGS:
            with self.subTest(value=value):
                self.raises(BadLabelling, {"part": "labelling"}, back_of, value, None)
                self.raises(BadLabelling, {"part": "labelling"}, back_of, climb=["+"], labelling=value)
        for value in NO_CHAINS:
            with self.subTest(value=value):
                for each in (TWO, SHUT):
                    self.raises(BadChain, {"part": "climb"}, back_of, each, value)
                    self.raises(BadChain, {"part": "climb"}, back_of, climb=value, labelling=each)


def turns_of_two(labelling, chain):
    """Whether a chain is a climb of a labelling of two places."""
    return len(chain[0]) == 2 and len(chain) == 2 and turns_of(labelling, chain) is not None


class Papers(Case):
    def test_any_value_is_kept_with_tuples_for_lists(self):
        for value, kept in ((None, None), (7, 7), ([["+0"], ("+0", "++")], (("+0",), ("+0", "++"))), ([], ()), ("x", "x"), (True, True),
                            ({"a": [1]}, {"a": [1]})):
            for paper in (Walk(value), Walk(chains=value)):
                self.same([paper.word, paper.chains, paper.parts, bool(paper)], ["walk", kept, (kept,), True])

    def test_equal_if_class_and_parts_are(self):
        self.same([Walk([["+"]]) == Walk((("+",),)), Walk([]) == Walk(()), Walk([]) != Walk([])], [True, True, False])
        self.same([Walk([["+"]]) == Walk([["-"]]), Walk([]) == Paper("walk", []), Paper("walk", ()) == Walk(())], [False] * 3)
        self.same([Walk(None) == None, Walk(()) == ()], [False, False])

    def test_a_walk_is_directly_below_paper(self):
        self.assertEqual(Walk.__bases__, (Paper,))
        self.assertFalse(isinstance(Walk([]), Denial))

    def test_the_chains_are_copied(self):
        told = [["+0"], ["+0", "++"]]
        paper = Walk(told)
        told[0].append("++")
        told.append([])
        self.same(paper.chains, (("+0",), ("+0", "++")))


if __name__ == "__main__":
    unittest.main()
