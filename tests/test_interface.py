"""The names, the parameters and the places of all that the interface tells of the modules that are there."""

import importlib
import inspect
import unittest

FUNCTIONS = {
    "checks": ["is_integer(value)", "is_within(value, least, most)"],
    "papers": ["fixed(value)"],
    "rows": ["is_row(value)", "opposite(row)", "size_of(row)", "first_sign(row)", "waves(row)", "sides_of(row)",
             "is_below(one, other)", "row_of(places, lefts, rights)", "rows_of(places)"],
    "chains": ["is_chain(value)", "is_full(value)", "half_of(chain)", "steps_of(chain)", "opposite_chain(chain)",
               "chain_of(places, steps)", "full_chains(places)"],
    "tables": ["label_of(labelling, row)", "labels_of(labelling, chain)", "wave_table(places)", "place_table(places)",
               "size_table(places)", "opposed_pair(table)", "amounts_of(table)"],
    "turns": ["by_turns(labels)", "turns_of(labelling, chain)", "clashes(labelling, chain)", "is_climb(labelling, chain)"],
    "doors": ["doors_of(labelling, chain)", "beyond(chain, index)"],
    "walks": ["step(labelling, chain, came)", "walk_of(labelling)", "end_of(labelling)", "back_of(labelling, climb)",
              "walked(labelling)"],
    "climbs": ["climbs(table)", "how_many(table)", "odd_of(table)"],
    "check_walks": ["shows_walk(labelling, value)", "shows_odd(table, value)"],
    "teams": ["are_apart(one, other)", "apart_pairs(teams)"],
    "waves": ["held(teams, row)", "is_free(teams, row)", "most_waves(teams)", "need(teams)", "freest(teams)"],
    "orders": ["in_order(teams, order)", "best_order(teams)"],
    "fillings": ["clash_pairs(filling)"],
    "stairs": ["stair_in(filling, chain)", "clash_in(filling, chain)", "judged(filling)"],
    "check_stairs": ["shows_filling(filling, value)"],
    "lots": ["all_teams(people, size)", "spread_teams(people, size)", "plain_filling(people, size)"],
    "fewest": ["fewest_rooms(teams)", "fewest_filling(teams)"],
    "webs": ["are_tied(web, one, other)", "web_of(teams)", "people_in(web)", "team_of(web, point)", "teams_of(web)",
             "fewest_hues(web)"],
    "hues": ["need_in(web, order)", "judged_hues(web, hues, order)", "shows_hues(web, hues, order, value)"],
    "changes": ["opposite_table(table)", "permuted(table, order)", "flipped(table, place)", "with_team(teams, team)", "without_team(teams, team)",
                "with_person(teams)", "joined(one, other)"],
    "pictures": ["row_picture(row)", "chain_picture(labelling, chain)", "filling_picture(filling)"],
}
CLASSES = {
    "papers": {"Paper(word, *parts)": ["__init__", "__eq__"], "Denial(word, *parts)": ["__init__", "__eq__"]},
    "tables": {"Table(places, labels)": ["__init__", "__eq__", "__str__", "read"]},
    "walks": {"Walk(chains)": ["__init__"]},
    "climbs": {"Odd(lone, pairs)": ["__init__"]},
    "teams": {"Teams(people, teams)": ["__init__", "__eq__", "__str__", "read"]},
    "fillings": {"Filling(teams, rooms)": ["__init__", "__eq__", "__str__", "read"]},
    "stairs": {"Stair(steps)": ["__init__"], "Clash(one, other)": ["__init__"]},
    "webs": {"Web(points, ties)": ["__init__", "__eq__"]},
    "hues": {"Piece(hues, points)": ["__init__"], "Same(one, other)": ["__init__"]},
    "desk": {"Desk()": ["__init__", "__eq__", "told", "back"]},
}


class Interface(unittest.TestCase):
    def test_functions(self):
        for module, wanted in FUNCTIONS.items():
            held = importlib.import_module("roomstair." + module)
            for each in wanted:
                call = getattr(held, each.partition("(")[0])
                self.assertTrue(inspect.isfunction(call), each)
                self.assertEqual(call.__name__ + str(inspect.signature(call)), each)
                self.assertEqual(call.__module__, held.__name__)

    def test_classes(self):
        for module, wanted in CLASSES.items():
            held = importlib.import_module("roomstair." + module)
            for each, methods in wanted.items():
                made = getattr(held, each.partition("(")[0])
                self.assertTrue(inspect.isclass(made), each)
                self.assertEqual(made.__name__ + str(inspect.signature(made)), each)
                self.assertEqual(made.__module__, held.__name__)
                for method in methods:
                    self.assertIn(method, vars(made), each)

    def test_read_takes_a_text(self):
        for module, name in (("tables", "Table"), ("teams", "Teams"), ("fillings", "Filling")):
            read = getattr(importlib.import_module("roomstair." + module), name).read
            self.assertEqual(str(inspect.signature(read)), "(text)")

    def test_told_takes_a_line_and_back_nothing(self):
        desk = importlib.import_module("roomstair.desk").Desk()
        self.assertEqual([str(inspect.signature(desk.told)), str(inspect.signature(desk.back))], ["(line)", "()"])


if __name__ == "__main__":
    unittest.main()
