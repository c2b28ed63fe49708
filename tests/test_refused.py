"""Which error comes first, over the whole program: several wrong arguments at once, by place and by name."""

import itertools
import unittest

from cases import NO_LISTS, STRANGE, Case
from roomstair import (changes, chains, check_stairs, check_walks, climbs, doors, errors, fewest, fillings, hues, lots, orders, pictures, rows,
                       stairs, tables, teams, turns, walks, waves, webs)
from roomstair.errors import Misfit, TooMany
from roomstair.fillings import Filling
from roomstair.stairs import Stair
from roomstair.tables import Table, wave_table
from roomstair.teams import Teams
from roomstair.walks import Walk, walk_of
from roomstair.webs import Web
from test_stairs import LONG_CLASH

TWO = Table(2, [1, 2, 1, 2])
# Without opposed rows: so its walk ends at a climb.
FREE = wave_table(2)
DUO = Teams(2, [[0], [1]])
GOOD = Filling(DUO, [1, 2])
SHUT = Filling(DUO, [1, 1])
RING = Web(4, [(0, 1), (1, 2), (2, 3), (0, 3)])
ANY = ([1], "x", None, 0, 10**99, {"a": []}, True)
# Of each kind of parameter the error and some values that it must refuse, whatever the other arguments are.
KINDS = {
    "labelling": ("BadLabelling", STRANGE + (DUO, RING, "1 / 1", [1])),
    "table": ("BadTable", STRANGE + (GOOD, DUO, "1 / 1", [1])),
    "teams": ("BadTeams", STRANGE + (GOOD, TWO, RING, "1 / 0", [[0]])),
    "filling": ("BadFilling", STRANGE + (TWO, DUO, "1 / 1 0", [1])),
    "web": ("BadWeb", STRANGE + (DUO, TWO, [(0, 1)], 4)),
    "row": ("BadRow", STRANGE + ("", "00", "x", "+" * 13, ["+0"], 1)),
    "chain": ("BadChain", NO_LISTS + ([], ["00"], ["+0", "+0"], [["+0"]])),
    "full": ("BadChain", NO_LISTS + ([], ["0+"], ["+-"], ["+00", "+0-"], ["+0", "0+"])),
    "number": ("BadNumber", STRANGE[1:] + (-1, 10**99, -10**99, "1", [1])),
    "came": ("BadNumber", STRANGE[1:] + (-1, 2, 10**99, "1", [1])),
    "labels": ("BadLabels", NO_LISTS + ([], [0], [1, True], [None])),
    "people": ("BadOrder", NO_LISTS + ([], [0, 0], [0, 1, 1], [True, 0], [0, 10**99])),
    "ties": ("BadWeb", NO_LISTS + ([0], [[0]], [(1, 0)], [(0, 1), [0, 1]], [(0, 99)])),
    "lots": ("BadTeams", NO_LISTS + ([], [[]], [[0], [0]], [[12]], [[True]])),
    "team": ("BadTeams", NO_LISTS + ([], [12], [0, 0], [True], [[0]])),
    "rooms": ("BadFilling", NO_LISTS + ([], [1], [0, 1], [1, 501], [1, True], [1, 2, 3])),
    "sides": ("BadRow", NO_LISTS + ([12], [0, 0], [True], [-1])),
    "steps": ("BadChain", NO_LISTS + ([], [(1, "+")], [(0, "0")], [(0, "+"), (0, "-")])),
    "hues": ("BadWeb", NO_LISTS + ([], [1, 2, 1], [0, 1, 2, 1], [1, 2, 1, 501], [1, 2, 1, True])),
    "told": ("BadTable", NO_LISTS + ([], [0] * 4, [1, 2, 1], [1, 2, 1, 1001])),
}
# The parameters of each call, in order: name, kind, and a right value.
CALLS = {
    rows.opposite: [("row", "row", "+0")],
    rows.size_of: [("row", "row", "+0")],
    rows.first_sign: [("row", "row", "+0")],
    rows.waves: [("row", "row", "+0")],
    rows.sides_of: [("row", "row", "+0")],
    rows.is_below: [("one", "row", "+0"), ("other", "row", "++")],
    rows.row_of: [("places", "number", 4), ("lefts", "sides", [0]), ("rights", "sides", [1])],
    rows.rows_of: [("places", "number", 2)],
    chains.half_of: [("chain", "full", ["+0", "++"])],
    chains.steps_of: [("chain", "full", ["+0", "++"])],
    chains.opposite_chain: [("chain", "chain", ["0+", "++"])],
    chains.chain_of: [("places", "number", 2), ("steps", "steps", [(0, "+")])],
    chains.full_chains: [("places", "number", 2)],
    Table: [("places", "number", 2), ("labels", "told", [1, 2, 1, 2])],
    tables.label_of: [("labelling", "labelling", TWO), ("row", "row", "+0")],
    tables.labels_of: [("labelling", "labelling", GOOD), ("chain", "chain", ["0+", "++"])],
    tables.wave_table: [("places", "number", 2)],
    tables.place_table: [("places", "number", 2)],
    tables.size_table: [("places", "number", 2)],
    tables.opposed_pair: [("table", "table", TWO)],
    tables.amounts_of: [("table", "table", TWO)],
    turns.by_turns: [("labels", "labels", [1, -2])],
    turns.turns_of: [("labelling", "labelling", TWO), ("chain", "chain", ["0+", "++"])],
    turns.clashes: [("labelling", "labelling", SHUT), ("chain", "chain", ["0+", "++"])],
    turns.is_climb: [("labelling", "labelling", TWO), ("chain", "chain", ["0+", "++"])],
    doors.doors_of: [("labelling", "labelling", TWO), ("chain", "full", ["+0", "++"])],
    doors.beyond: [("chain", "full", ["+0", "++"]), ("index", "number", 0)],
    walks.step: [("labelling", "labelling", TWO), ("chain", "full", ["+0", "++"]), ("came", "came", 1)],
    walks.walk_of: [("labelling", "labelling", TWO)],
    walks.end_of: [("labelling", "labelling", SHUT)],
    walks.back_of: [("labelling", "labelling", FREE), ("climb", "chain", ["0+", "-+"])],
    walks.walked: [("labelling", "labelling", GOOD)],
    climbs.climbs: [("table", "table", TWO)],
    climbs.how_many: [("table", "table", TWO)],
    climbs.odd_of: [("table", "table", FREE)],
    check_walks.shows_walk: [("labelling", "labelling", TWO), ("value", None, Walk([]))],
    check_walks.shows_odd: [("table", "table", FREE), ("value", None, Walk([]))],
    Teams: [("people", "number", 2), ("teams", "lots", [[0]])],
    teams.are_apart: [("one", "team", [0]), ("other", "team", [1])],
    teams.apart_pairs: [("teams", "teams", DUO)],
    waves.held: [("teams", "teams", DUO), ("row", "row", "+0")],
    waves.is_free: [("teams", "teams", DUO), ("row", "row", "+0")],
    waves.most_waves: [("teams", "teams", DUO)],
    waves.need: [("teams", "teams", DUO)],
    waves.freest: [("teams", "teams", DUO)],
    orders.in_order: [("teams", "teams", DUO), ("order", "people", [1, 0])],
    orders.best_order: [("teams", "teams", DUO)],
    Filling: [("teams", "teams", DUO), ("rooms", "rooms", [1, 2])],
    fillings.clash_pairs: [("filling", "filling", GOOD)],
    stairs.stair_in: [("filling", "filling", GOOD), ("chain", "chain", ["-0", "-+"])],
    stairs.clash_in: [("filling", "filling", SHUT), ("chain", "chain", ["+-"])],
    stairs.judged: [("filling", "filling", GOOD)],
    check_stairs.shows_filling: [("filling", "filling", GOOD), ("value", None, Stair([]))],
    lots.all_teams: [("people", "number", 4), ("size", "number", 2)],
    lots.spread_teams: [("people", "number", 4), ("size", "number", 2)],
    lots.plain_filling: [("people", "number", 4), ("size", "number", 2)],
    fewest.fewest_rooms: [("teams", "teams", DUO)],
    fewest.fewest_filling: [("teams", "teams", DUO)],
    Web: [("points", "number", 4), ("ties", "ties", [(0, 1)])],
    webs.are_tied: [("web", "web", RING), ("one", "number", 0), ("other", "number", 0)],
    webs.web_of: [("teams", "teams", DUO)],
    webs.people_in: [("web", "web", RING)],
    webs.team_of: [("web", "web", RING), ("point", "number", 0)],
    webs.teams_of: [("web", "web", RING)],
    webs.fewest_hues: [("web", "web", RING)],
    hues.need_in: [("web", "web", RING), ("order", "people", [5, 0, 1, 2, 3, 4])],
    hues.judged_hues: [("web", "web", RING), ("hues", "hues", [1, 2, 1, 2]), ("order", "people", [5, 0, 1, 2, 3, 4])],
    hues.shows_hues: [("web", "web", RING), ("hues", "hues", [1, 2, 1, 2]), ("order", "people", [5, 0, 1, 2, 3, 4]), ("value", None, Stair([]))],
    changes.opposite_table: [("table", "table", TWO)],
    changes.permuted: [("table", "table", TWO), ("order", "people", [1, 0])],
    changes.flipped: [("table", "table", TWO), ("place", "number", 0)],
    changes.with_team: [("teams", "teams", DUO), ("team", "team", [1, 0])],
    changes.without_team: [("teams", "teams", DUO), ("team", "team", [1])],
    changes.with_person: [("teams", "teams", DUO)],
    changes.joined: [("one", "teams", DUO), ("other", "teams", DUO)],
    pictures.row_picture: [("row", "row", "+0")],
    pictures.chain_picture: [("labelling", "labelling", SHUT), ("chain", "chain", ["0+", "-+"])],
    pictures.filling_picture: [("filling", "filling", GOOD)],
}


class Refused(Case):
    def refuses(self, error, fields, call, named):
        """See that the call raises the error, its arguments given by place, and by name, the last one first."""
        self.raises(error, fields, call, *named.values())
        self.raises(error, fields, call, **dict(reversed(named.items())))

    def test_right_arguments_are_taken(self):
        for call, told in CALLS.items():
            with self.subTest(call=call):
                named = {name: right for name, _, right in told}
                first, again = call(*named.values()), call(**dict(reversed(named.items())))
                self.assertTrue(first == again)

    def test_the_first_wrong_argument_is_told(self):
        for call, told in CALLS.items():
            for at, (name, kind, _) in enumerate(told):
                if kind is not None:
                    for number, value in enumerate(KINDS[kind][1]):
                        # Those behind the wrong one are right, or any values at all.
                        for rest in ([right for _, _, right in told[at + 1:]], [ANY[number % len(ANY)]] * (len(told) - at - 1)):
                            with self.subTest(call=call, name=name, value=value, rest=rest):
                                values = [right for _, _, right in told[:at]] + [value] + rest
                                named = dict(zip([each for each, _, _ in told], values))
                                self.refuses(getattr(errors, KINDS[kind][0]), {"part": name}, call, named)

    def test_two_wrong_arguments(self):
        for call, told in CALLS.items():
            for (at, first), (_, other) in itertools.combinations(enumerate(told), 2):
                if first[1] is None or other[1] is None:
                    continue
                for value, another in zip(KINDS[first[1]][1][::3], KINDS[other[1]][1]):
                    named = {name: right for name, _, right in told}
                    named.update({first[0]: value, other[0]: another})
                    with self.subTest(call=call, named=named):
                        self.refuses(getattr(errors, KINDS[first[1]][0]), {"part": first[0]}, call, named)

    def test_wrong_values_come_ahead_of_misfits(self):
        for error, part, call, named in (
            ("BadRow", "other", rows.is_below, {"one": "+", "other": "00"}),
            ("BadNumber", "came", walks.step, {"labelling": TWO, "chain": ["+00", "++0"], "came": 2}),
            ("BadNumber", "came", walks.step, {"labelling": TWO, "chain": ["0+", "-+"], "came": True}),
            ("BadNumber", "index", doors.beyond, {"chain": ["+"], "index": 1}),
            ("BadRow", "rights", rows.row_of, {"places": 2, "lefts": [], "rights": [2]}),
            ("BadChain", "chain", doors.doors_of, {"labelling": TWO, "chain": ["0+0"]}),
            ("BadChain", "climb", walks.back_of, {"labelling": TWO, "climb": ["+00", "+0"]}),
            ("BadNumber", "other", webs.are_tied, {"web": RING, "one": 0, "other": 4}),
            ("BadNumber", "size", lots.all_teams, {"people": 12, "size": 13}),
            ("BadOrder", "order", hues.need_in, {"web": Web(60, []), "order": [0]}),
            ("BadTeams", "team", changes.without_team, {"teams": Teams(2, [[0]]), "team": [2]}),
            ("BadChain", "chain", pictures.chain_picture, {"labelling": TWO, "chain": ["+00", "+00"]}),
        ):
            self.refuses(getattr(errors, error), {"part": part}, call, named)


class Walks(Case):
    def test_chains_of_other_places(self):
        longer = (["+00"], ["+00", "++0"], ("-00", "--0", "---"), ["+"], ["0+0", "-+0"])
        for labelling in (TWO, FREE, GOOD, SHUT):
            for chain in longer:
                for call in (tables.labels_of, turns.turns_of, turns.clashes, turns.is_climb, doors.doors_of):
                    self.raises(Misfit, {"part": "chain"}, call, labelling, chain)
                    self.raises(Misfit, {"part": "chain"}, call, chain=chain, labelling=labelling)
                for came in (None, 0):
                    self.raises(Misfit, {"part": "chain"}, walks.step, labelling, chain, came)
                self.raises(Misfit, {"part": "climb"}, walks.back_of, labelling, chain)
        for filling in (GOOD, SHUT):
            for chain in longer:
                for call in (stairs.stair_in, stairs.clash_in):
                    self.raises(Misfit, {"part": "chain"}, call, filling, chain)
                    self.raises(Misfit, {"part": "chain"}, call, chain=chain, filling=filling)

    def test_climbs_that_are_none(self):
        for labelling in (TWO, FREE, GOOD, SHUT):
            for chain in chains.full_chains(2) + (("+0",), ("0-",), ("++",), ("-+",)):
                if turns.is_climb(labelling, chain):
                    self.same(walks.back_of(labelling, chain)[0], chain)
                else:
                    self.raises(Misfit, {"part": "climb"}, walks.back_of, labelling, chain)
                    self.raises(Misfit, {"part": "climb"}, walks.back_of, climb=list(chain), labelling=labelling)
                    if labelling in (GOOD, SHUT):
                        self.raises(Misfit, {"part": "chain"}, stairs.stair_in, labelling, chain)

    def test_ways_in_which_no_walk_comes(self):
        told = 0
        for labelling in (TWO, FREE, GOOD, SHUT):
            for chain in chains.full_chains(2):
                if turns.clashes(labelling, chain):
                    self.same([walks.step(labelling, chain, came) for came in (None, 0, 1)], [None] * 3)
                    continue
                ways = doors.doors_of(labelling, chain) + ((None,) if turns.turns_of(labelling, chain) else ())
                for came in {None, 0, 1} - set(ways):
                    told += 1
                    self.raises(Misfit, {"part": "came"}, walks.step, labelling, chain, came)
                    self.raises(Misfit, {"part": "came"}, walks.step, came=came, chain=list(chain), labelling=labelling)
            for chain in (["+0"], ("-0",)):
                self.raises(Misfit, {"part": "came"}, walks.step, labelling, chain, 0)
        self.assertGreater(told, 20)

    def test_too_many_chains_come_last(self):
        last = walks.end_of(LONG_CLASH)[1]
        for call in (walks.walk_of, walks.walked):
            self.raises(TooMany, {"what": "chains", "most": 2000}, call, LONG_CLASH)
        self.raises(Misfit, {"part": "climb"}, walks.back_of, LONG_CLASH, last)
        self.same(walk_of(TWO)[-1], ("0+", "-+"))


if __name__ == "__main__":
    unittest.main()
