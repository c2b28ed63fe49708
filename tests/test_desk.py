"""roomstair.desk: lines, deeds, asks, the log, what is taken back."""

import re
import unittest

import test_tables
import test_teams
from cases import NO_STRINGS, Case, numbers, some_teams
from roomstair import desk as desk_module
from roomstair import errors
from roomstair.desk import Desk
from roomstair.errors import BadFilling, BadText, Misfit, NoName, Nothing, StairError, TooMany, Twice
from roomstair.fillings import Filling
from roomstair.lots import all_teams
from roomstair.rows import is_row
from roomstair.stairs import Clash, judged
from roomstair.tables import Table, label_of, labels_of, opposed_pair, place_table, size_table, wave_table
from roomstair.teams import Teams
from roomstair.turns import clashes, is_climb, turns_of
from roomstair.walks import end_of, step, walk_of
from roomstair.waves import is_free, most_waves, need
from test_stairs import LONG_CLASH
from test_tables import SHUT, TWO, any_table
from test_walks import RING, WALKS

NAME = "[a-z][a-z0-9]{0,11}"
ROOM = "[1-9][0-9]?|[1-4][0-9][0-9]|500"
PEOPLE = "[1-9]|1[0-2]"
STEPS = "[1-9][0-9]{0,2}|1000"
DEEDS = ("table", "teams", "lots", "fill", "drop", "begin", "go")
WALK_ASKS = ("at", "labels", "came", "steps", "state")
# The forms of the items of each line that has just so many; a row is looked at on its own.
FORMS = {
    "lots": (NAME, PEOPLE, PEOPLE), "drop": (NAME,), "begin": (NAME,), "go": (STEPS,), "names": (), "text": (NAME,), "label": (NAME, "row"), "pair": (NAME,),
    "most": (NAME,), "need": (NAME,), "free": (NAME, "row"), "judge": (NAME,), "at": (), "labels": (), "came": (), "steps": (), "state": (),
}
ODD_ITEMS = ("", "0", "1", "13", "501", "1001", "01", "+1", "-1", "x", "X", "two", "a" * 12, "a" * 13, "1a", "a_", "\u00e9", "a\n", "+", "++", "00",
             "+" * 13, "/", "table", "-0", "9" * 3000)
ALL_LINES = (
    "table two 2 / 1 2 1 2", "teams ones 2 / 0 / 1", "lots pairs 4 2", "fill good ones 1 2", "drop two", "begin two", "go 7", "names", "text two",
    "label two +0", "pair two", "most ones", "need ones", "free ones +0", "judge good", "at", "labels", "came", "steps", "state")
BEGUN = ("table two 2 / 1 2 1 2", "teams ones 2 / 0 / 1", "fill good ones 1 2", "fill bad ones 7 7", "table three 3 / " + " ".join(["1"] * 13))


def wrong_item(line):
    """The item at which a line is wrong, by looking alone; None if it is right."""
    items = line.split(" ")
    word, rest = items[0], " ".join(items[2:])
    if word not in FORMS and word not in ("table", "teams", "fill"):
        return 0
    if word in ("table", "teams", "fill") and (len(items) < 2 or not re.fullmatch(NAME, items[1])):
        return 1
    if word in ("table", "teams"):
        found = (test_tables if word == "table" else test_teams).wrong_item(rest)
        return None if found is None else found + 2
    forms = (NAME, NAME) + (ROOM,) * max(len(items) - 3, 1) if word == "fill" else FORMS[word]
    for at, form in enumerate(forms, 1):
        if at >= len(items) or not (is_row(items[at]) if form == "row" else re.fullmatch(form, items[at])):
            return at
        if word == "lots" and at == 3 and int(items[3]) > int(items[2]):
            return 3
    return len(forms) + 1 if len(items) > len(forms) + 1 else None


def whole_walk(labelling):
    """All pairs of a chain of the walk and of how the walk came there, step by step."""
    row = "+" + "0" * (labelling.places - 1)
    found = [((row if label_of(labelling, row) > 0 else "-" + row[1:],), None)]
    while (ahead := step(labelling, *found[-1])) is not None:
        found.append(ahead)
    return found


def told_or_dash(value):
    """A value, - for None."""
    return "-" if value is None else str(value)


def people_told(team):
    """The people of a team."""
    return " ".join(map(str, team))


class Model:
    """What a desk must answer, each time worked out of all its deeds anew."""

    def __init__(self):
        self.log, self.kept, self.walk, self.at, self.steps = [], {}, None, 0, 0

    def find(self, name, kind):
        """What a name keeps."""
        classes = {"table": Table, "teams": Teams, "filling": Filling, "labelling": (Table, Filling), "any": object}
        if name not in self.kept:
            raise NoName(name)
        if not isinstance(self.kept[name], classes[kind]):
            raise Misfit(kind)
        return self.kept[name]

    def told(self, line):
        """The answer to a line, or the error."""
        if not isinstance(line, str):
            raise BadText(0, 0)
        if wrong_item(line) is not None:
            raise BadText(0, wrong_item(line))
        word, *rest = line.split(" ")
        answer = self.deed(word, rest) if word in DEEDS else self.ask(word, rest)
        if word in DEEDS:
            self.log.append(line)
        return answer

    def deed(self, word, rest):
        """The answer to a deed."""
        if word == "go":
            return self.go(int(rest[0]))
        if word == "begin":
            self.walk, self.at = (self.find(rest[0], "labelling"), whole_walk(self.find(rest[0], "labelling"))), 0
            return self.ask("at", [])
        if word == "drop":
            self.find(rest[0], "any")
            del self.kept[rest[0]]
            return rest[0]
        if rest[0] in self.kept:
            raise Twice(rest[0])
        if word == "fill":
            value = Filling(self.find(rest[1], "teams"), [int(room) for room in rest[2:]])
        elif word == "lots":
            value = all_teams(int(rest[1]), int(rest[2]))
        else:
            value = (Table if word == "table" else Teams).read(" ".join(rest[1:]))
        self.kept[rest[0]] = value
        told = {"table": lambda: f"table {value.places}", "fill": lambda: f"filling {max(value.rooms)}"}
        return told.get(word, lambda: f"teams {value.people} {len(value.teams)}")()

    def go(self, most):
        """The walk goes on."""
        if self.walk is None:
            raise Nothing()
        gone = min(most, len(self.walk[1]) - 1 - self.at)
        self.at += gone
        return f"{gone} " + " ".join(self.walk[1][self.at][0])

    def ask(self, word, rest):
        """The answer to what is asked."""
        if word == "names":
            return " ".join(sorted(self.kept)) or "-"
        if word in WALK_ASKS:
            return self.ask_walk(word)
        kinds = {"text": "any", "label": "labelling", "pair": "table", "most": "teams", "need": "teams", "free": "teams", "judge": "filling"}
        value = self.find(rest[0], kinds[word])
        if word == "judge":
            paper = judged(value)
            if isinstance(paper, Clash):
                return "clash " + " / ".join(map(people_told, paper.parts))
            return ("stair " + " / ".join(f"{room} : {people_told(team)}" for room, team in paper.steps)).strip()
        return {"text": lambda: str(value), "label": lambda: told_or_dash(label_of(value, rest[1])), "pair": lambda: " ".join(opposed_pair(value) or ["-"]),
                "most": lambda: str(most_waves(value)), "need": lambda: str(need(value)),
                "free": lambda: "yes" if is_free(value, rest[1]) else "no"}[word]()

    def ask_walk(self, word):
        """The answer to what is asked about the walk."""
        if self.walk is None:
            raise Nothing()
        labelling, (chain, came) = self.walk[0], self.walk[1][self.at]
        if word == "state":
            if clashes(labelling, chain):
                return "clash"
            return f"climb {turns_of(labelling, chain)}" if is_climb(labelling, chain) else "open"
        return {"at": " ".join(chain), "labels": " ".join(map(told_or_dash, labels_of(labelling, chain))), "came": told_or_dash(came), "steps": str(self.at)}[word]

    def again(self):
        """Another model that is told the same deeds."""
        other = Model()
        for line in self.log:
            other.told(line)
        return other


def outcome(call, *args):
    """What a call returns, or its error with the fields of this."""
    try:
        return call(*args)
    except StairError as error:
        return type(error), vars(error)


def prepared(*lines):
    """A desk that was told these lines."""
    found = Desk()
    for line in lines:
        found.told(line)
    return found


class Examples(Case):
    def test_the_examples(self):
        self.examples("""
>>> desk = Desk()
>>> [desk.told(line) for line in ("table two 2 / 1 2 1 2", "begin two", "go 1", "came", "labels", "state", "go 9", "state", "steps", "labels")]
['table 2', '+0', '1 +0 ++', '1', '1 1', 'open', '2 0+ -+', 'clash', '3', '2 -2']
>>> [desk.told(line) for line in ("pair two", "label two 0-", "teams ones 2 / 0 / 1", "most ones", "need ones", "free ones +0", "fill good ones 1 2", "fill bad ones 7 7")]
['0+ -+', '-2', 'teams 2 2', '0', '2', 'no', 'filling 2', 'filling 7']
>>> [desk.told(line) for line in ("judge good", "judge bad", "label good -+", "label bad -+", "begin good", "go 1000", "state", "drop good", "at", "names")]
['stair 1 : 0 / 2 : 1', 'clash 1 / 0', '2', '-', '+0', '4 -0 -+', 'climb -', 'good', '-0 -+', 'bad ones two']
>>> [desk.back(), desk.back(), desk.told("at"), desk.told("came"), desk.told("text two"), desk.told("lots pairs 4 2"), desk.told("need pairs"), len(desk.log)]
['drop good', 'go 1000', '+0', '-', '2 / 1 2 1 2', 'teams 4 6', '2', 9]
>>> desk.told("table two 1 / 5")
raises Twice('two')
>>> desk.told("judge two")
raises Misfit('filling')
>>> desk.told("table more 1 / 0")
raises BadText(0, 4)
>>> desk.told("need three")
raises NoName('three')
>>> desk.told("label two +")
raises Misfit('row')
>>> Desk().told("go 1")
raises Nothing()
""", {**vars(errors), **vars(desk_module)})


class Lines(Case):
    def test_what_is_no_string(self):
        desk = prepared(*BEGUN)
        for value in NO_STRINGS + (["names"], ("names",), b"names", TWO):
            with self.subTest(value=value):
                self.raises(BadText, {"line": 0, "item": 0}, desk.told, value)
                self.raises(BadText, {"line": 0, "item": 0}, desk.told, line=value)

    def test_some_items_told_outright(self):
        desk = prepared(*BEGUN)
        for line, item in (
            ("", 0), (" ", 0), (" names", 0), ("names ", 1), ("names x", 1), ("Names", 0), ("names\n", 0), ("tables a 1 / 1", 0), ("back", 0), ("log", 0), ("told", 0),
            ("table", 1), ("table a", 2), ("table a ", 2), ("table A 1 / 1", 1), ("table  1 / 1", 1), ("table 1a 1 / 1", 1), ("table a 1", 3), ("table a 1 /", 4),
            ("table a 7 / 1", 2), ("table a 1 / 0", 4), ("table a 1 / 1001", 4), ("table a 1 / 1 1", 5), ("table a 1 / 1 ", 5), ("table a 2 / 1 2 1", 7),
            ("table a 1  1", 3), ("teams a", 2), ("teams a 0 / 0", 2), ("teams a 13 / 0", 2), ("teams a 2 / 2", 4), ("teams a 2 / 1 / 0", 6), ("teams a 2 / 0 / 0", 6),
            ("teams a 2 / 0 1 / 0", 7), ("teams a 2 / 0 /", 6), ("teams a 2 / 1 0", 5), ("lots a", 2), ("lots a 4", 3), ("lots a 4 2 ", 4), ("lots a 4 2 1", 4),
            ("lots a 0 1", 2), ("lots a 13 1", 2), ("lots a 4 5", 3), ("lots a 4 0", 3), ("lots a 12 13", 3), ("lots a 04 2", 2), ("fill", 1), ("fill a", 2),
            ("fill a ones", 3), ("fill a ones 0", 3), ("fill a ones 501", 3), ("fill a ones 1 501", 4), ("fill a ones 1 2 ", 5), ("fill a ones 1  2", 4),
            ("fill a 1 1", 2), ("fill A ones 0", 1), ("drop", 1), ("drop ", 1), ("drop two two", 2), ("drop TWO", 1), ("begin", 1), ("begin two ", 2), ("go", 1),
            ("go 0", 1), ("go 1001", 1), ("go -1", 1), ("go 01", 1), ("go one", 1), ("go 1 1", 2), ("go 1000 ", 2), ("text", 1), ("text two 1", 2), ("label two", 2),
            ("label two 00", 2), ("label two +x", 2), ("label two " + "+" * 13, 2), ("label two +0 +0", 3), ("label two ", 2), ("pair", 1), ("pair two +", 2),
            ("most", 1), ("need ones 1", 2), ("free ones", 2), ("free ones 0", 2), ("free ones + +", 3), ("judge", 1), ("judge good bad", 2), ("at two", 1),
            ("at ", 1), ("labels 1", 1), ("came 0", 1), ("steps 1", 1), ("state open", 1), ("names" + " " * 100, 1), ("x" * 20000, 0), (" " * 19999, 0)):
            with self.subTest(line=line[:100]):
                self.same(wrong_item(line), item)
                self.raises(BadText, {"line": 0, "item": item}, desk.told, line)
        self.same(desk.log, BEGUN)

    def test_changed_lines(self):
        for line in ALL_LINES + ("teams more 4 / 0 1 / 0 2 3 / 1", "table more 1 / -1000", "fill more ones 500 1", "label good -+", "go 1000"):
            for each in test_teams.changed_texts(line, ODD_ITEMS):
                item = wrong_item(each)
                if item is not None:
                    with self.subTest(line=each[:100]):
                        self.raises(BadText, {"line": 0, "item": item}, Desk().told, each)

    def test_long_texts(self):
        # All lots of some people but the last one: a 501st team cannot stand.
        lots = sorted(tuple(person for person in range(12) if lot >> person & 1) for lot in range(1, 502))
        text = "teams a 12 / " + " / ".join(map(people_told, lots[:500]))
        desk = Desk()
        self.same(desk.told(text), "teams 12 500")
        self.same(desk.told("text a"), text[8:])
        self.raises(BadText, {"line": 0, "item": len(text.split(" "))}, desk.told, text.replace(" a ", " b ") + " / " + people_told(lots[500]))
        self.raises(Twice, {"value": "a"}, desk.told, text)
        table = "table b 6 / " + " ".join(["1000"] * 364)
        self.raises(BadText, {"line": 0, "item": 368}, desk.told, table + " 1")
        self.same(desk.told(table), "table 6")
        self.raises(BadText, {"line": 0, "item": 1002}, desk.told, "fill c a" + " 500" * 999 + " 0")

    def test_names(self):
        desk = Desk()
        for name in ("a", "z", "a0", "z9", "abcdefghijkl", "a" * 12, "a12345678901", "table", "names", "x" + "0" * 11):
            self.same([desk.told(f"table {name} 1 / 1"), desk.told(f"text {name}")], ["table 1", "1 / 1"])
        for name in ("", "0", "0a", "9", "a" * 13, "A", "aB", "a_b", "a-b", "a.", "\u00e9", "a\u00e9", "\u0661", "a\u0661", "a\u00b2", "+", "/", "-", "a\n", "a\t", "{", "`"):
            for line, item in ((f"table {name} 1 / 1", 1), (f"drop {name}", 1), (f"fill b {name} 1", 2), (f"text {name}", 1), (f"begin {name}", 1)):
                with self.subTest(line=line):
                    self.raises(BadText, {"line": 0, "item": item}, desk.told, line)


class Deeds(Case):
    def test_tables_teams_and_lots(self):
        source = numbers(161)
        desk = Desk()
        for places in range(1, 7):
            table = any_table(places, 1000, source)
            self.same([desk.told(f"table t{places} {table}"), desk.told(f"text t{places}")], [f"table {places}", str(table)])
        for people in (1, 2, 5, 12):
            some = some_teams(people, 9, source)
            self.same([desk.told(f"teams s{people} {some}"), desk.told(f"text s{people}")], [f"teams {people} {some.many}", str(some)])
        for people, size in ((1, 1), (5, 2), (12, 4), (12, 12), (3, 3)):
            some = all_teams(people, size)
            self.same([desk.told(f"lots l{people}x{size} {people} {size}"), desk.told(f"text l{people}x{size}")], [f"teams {people} {some.many}", str(some)])
        self.raises(TooMany, {"what": "teams", "most": 500}, desk.told, "lots big 12 5")
        self.raises(Twice, {"value": "t1"}, desk.told, "lots t1 12 5")
        self.raises(BadText, {"line": 0, "item": 3}, desk.told, "lots t1 12 13")
        self.raises(NoName, {"value": "big"}, desk.told, "drop big")

    def test_fillings(self):
        desk = prepared("lots pairs 4 2", "teams ones 2 / 0 / 1")
        self.same([desk.told("fill a pairs 1 2 3 500 5 6"), desk.told("fill b pairs 1 1 1 1 1 1"), desk.told("fill c ones 3 2")], ["filling 500", "filling 1", "filling 3"])
        self.same(desk.told("text a"), str(Filling(all_teams(4, 2), [1, 2, 3, 500, 5, 6])))
        for rooms in ("1", "1 2 3", "1 " * 499 + "1", "1 2 3 4 5 6"):
            self.raises(BadFilling, {"part": "rooms"}, desk.told, "fill d ones " + rooms)
        self.raises(BadFilling, {"part": "rooms"}, desk.told, "fill d pairs 1 2 3 4 5")
        self.raises(Misfit, {"part": "teams"}, desk.told, "fill d a 1 2 3 4 5 6")
        self.same([desk.told("names"), len(desk.log)], ["a b c ones pairs", 5])

    def test_a_filling_has_the_teams_that_it_was_made_with(self):
        desk = prepared("teams ones 2 / 0 / 1", "fill good ones 1 2", "drop ones", "lots ones 3 1")
        self.same([desk.told("text good"), desk.told("judge good"), desk.told("text ones")], ["2 / 1 0 / 2 1", "stair 1 : 0 / 2 : 1", "3 / 0 / 1 / 2"])

    def test_names_that_are_kept_and_not_kept(self):
        desk = prepared(*BEGUN)
        for line in ("table two 1 / 1", "teams two 1 / 0", "lots two 1 1", "fill two ones 1 2", "fill good nothere 1", "table good 2 / 1 2 1 2", "fill ones ones 1"):
            self.raises(Twice, {"value": line.split(" ")[1]}, desk.told, line)
        for line in ("drop x", "begin x", "text x", "label x +", "pair x", "most x", "need x", "free x +", "judge x"):
            self.raises(NoName, {"value": "x"}, desk.told, line)
        self.raises(NoName, {"value": "x"}, desk.told, "fill y x 1")
        # The name that is to be kept comes first, then the other one.
        self.raises(Twice, {"value": "two"}, desk.told, "fill two x 1")
        self.raises(NoName, {"value": "y"}, desk.told, "fill y y 1")
        self.same(desk.log, BEGUN)

    def test_names_of_another_sort(self):
        desk = prepared(*BEGUN)
        for name, kinds in (("two", ("teams", "filling")), ("ones", ("table", "filling", "labelling")), ("good", ("table", "teams"))):
            for line, kind in (("pair {}", "table"), ("most {}", "teams"), ("need {}", "teams"), ("free {} +0", "teams"), ("free {} +", "teams"), ("judge {}", "filling"),
                               ("label {} +0", "labelling"), ("label {} +", "labelling"), ("begin {}", "labelling"), ("fill new {} 1 2", "teams"), ("fill new {} 1", "teams")):
                if kind in kinds:
                    self.raises(Misfit, {"part": kind}, desk.told, line.format(name))
        self.same(desk.log, BEGUN)

    def test_drops(self):
        desk = prepared(*BEGUN)
        self.same([desk.told("drop ones"), desk.told("names"), desk.told("drop two"), desk.told("names")], ["ones", "bad good three two", "two", "bad good three"])
        self.raises(NoName, {"value": "two"}, desk.told, "drop two")
        self.same([desk.told("table two 1 / 9"), desk.told("text two")], ["table 1", "1 / 9"])
        for name in ("bad", "good", "three", "two"):
            desk.told("drop " + name)
        self.same(desk.told("names"), "-")

    def test_lines_by_name(self):
        desk = Desk()
        self.same([desk.told(line="table two 1 / 5"), desk.told(line="names"), desk.log], ["table 1", "two", ("table two 1 / 5",)])

    def test_lines_that_raise_change_nothing(self):
        for lines in ((), BEGUN, BEGUN + ("begin good", "go 2")):
            desk = prepared(*lines)
            before = [outcome(desk.told, line) for line in ALL_LINES if line.split(" ")[0] not in DEEDS]
            for line in ("begin ones", "begin x", "go 0", "table two 1 / 5 5", "fill new ones 1", "lots new 12 6", "drop x", "fill new x 1", "begin good good", "nothing", 7):
                with self.assertRaises(StairError):
                    desk.told(line)
                self.same(desk.log, lines)
            self.same([outcome(desk.told, line) for line in ALL_LINES if line.split(" ")[0] not in DEEDS], before)


class Asks(Case):
    def test_no_walk(self):
        for desk in (Desk(), prepared(*BEGUN)):
            for line in WALK_ASKS + ("go 1", "go 1000"):
                self.raises(Nothing, {}, desk.told, line)

    def test_labels_and_pairs(self):
        source = numbers(162)
        table = any_table(3, 3, source)
        desk = prepared(f"table some {table}", f"table free {wave_table(4)}", "teams ones 2 / 0 / 1", "fill shut ones 1 1")
        for row in ("+00", "-+-", "0--", "00-"):
            self.same(desk.told("label some " + row), str(label_of(table, row)))
        self.same([desk.told("label shut " + row) for row in ("+0", "+-", "--", "0-")], ["1", "-", "-1", "-1"])
        self.same([desk.told("pair some"), desk.told("pair free")], [" ".join(opposed_pair(table)), "-"])
        for row in ("+", "++", "+" * 12):
            self.raises(Misfit, {"part": "row"}, desk.told, "label some " + row)
        self.raises(Misfit, {"part": "row"}, desk.told, "label shut +")
        self.raises(Misfit, {"part": "row"}, desk.told, "free ones +")

    def test_teams(self):
        desk = prepared("lots pairs 4 2", "teams ones 2 / 0 / 1", "teams all 3 / 0 1 2")
        self.same([desk.told(f"{word} {name}") for word in ("most", "need") for name in ("pairs", "ones", "all")], ["2", "0", "3", "2", "2", "0"])
        self.same([desk.told("free pairs " + row) for row in ("+-00", "++00", "+--0", "0-0+")], ["yes", "no", "no", "yes"])

    def test_judged(self):
        desk = prepared("teams all 3 / 0 1 / 1 2", "fill none all 7 7", "lots pairs 5 2", "fill plain pairs 1 1 1 1 2 2 2 3 3 3", "fill shut pairs" + " 9" * 10)
        self.same(desk.told("judge none"), "stair")
        paper, clash = judged(Filling(all_teams(5, 2), [1, 1, 1, 1, 2, 2, 2, 3, 3, 3])), judged(Filling(all_teams(5, 2), [9] * 10))
        self.same(desk.told("judge plain"), "stair " + " / ".join(f"{room} : {people_told(team)}" for room, team in paper.steps))
        self.same(desk.told("judge shut"), f"clash {people_told(clash.one)} / {people_told(clash.other)}")
        self.same([len(paper.steps), bool(clash)], [3, False])

    def test_names_ascend(self):
        desk = Desk()
        self.same(desk.told("names"), "-")
        for name in ("b", "a9", "a", "b1", "aa", "z", "a10"):
            desk.told(f"table {name} 1 / 1")
        self.same(desk.told("names"), "a a10 a9 aa b b1 z")

    def test_asks_are_no_deeds(self):
        desk = prepared(*BEGUN, "begin two")
        for line in ALL_LINES:
            if line.split(" ")[0] not in DEEDS:
                desk.told(line)
        self.same(desk.log, BEGUN + ("begin two",))


class Walks(Case):
    def look_at(self, labelling, kept, strides):
        """See that the walk of a labelling goes on as told, and is told of at each chain at which it stops."""
        desk = prepared(*kept)
        found = whole_walk(labelling)
        self.same(desk.told("begin one"), " ".join(found[0][0]))
        at = 0
        for stride in strides:
            gone = min(stride, len(found) - 1 - at)
            at += gone
            chain, came = found[at]
            self.same(desk.told(f"go {stride}"), f"{gone} {' '.join(chain)}")
            wanted = "clash" if clashes(labelling, chain) else f"climb {turns_of(labelling, chain)}" if is_climb(labelling, chain) else "open"
            labels = " ".join(told_or_dash(label) for label in labels_of(labelling, chain))
            self.same([desk.told(ask) for ask in WALK_ASKS], [" ".join(chain), labels, told_or_dash(came), str(at), wanted])
        self.same([end_of(labelling)[0] - 1 >= at, wanted != "open"], [True, at == len(found) - 1])

    def test_walks_of_tables(self):
        source = numbers(163)
        for places in range(1, 7):
            for table in (wave_table(places), place_table(places), size_table(places), any_table(places, 2, source), any_table(places, 1000, source)):
                self.look_at(table, [f"table one {table}"], [1] * 12 + [3] * 20 + [1000, 1])

    def test_walks_of_fillings(self):
        source = numbers(164)
        for people in (1, 2, 3, 4, 6, 12):
            for most in (1, 3, 500):
                some = some_teams(people, 9, source)
                filling = Filling(some, [next(source) % most + 1 for _ in range(some.many)])
                kept = [f"teams of {some}", "fill one of " + " ".join(map(str, filling.rooms)), "drop of"]
                self.look_at(filling, kept, [1] * 8 + [5] * 8 + [1000])

    def test_a_walk_goes_on_after_a_drop(self):
        desk = prepared(*BEGUN, "begin good", "go 1", "drop good", "drop ones", "drop bad", "table good 1 / -3")
        self.same([desk.told(line) for line in ("at", "go 1", "labels", "go 1000", "state", "go 1000", "steps")],
                  ["+0 ++", "1 0+ ++", "2 2", "2 -0 -+", "climb -", "0 -0 -+", "4"])
        self.same([desk.told("begin good"), desk.told("state"), desk.told("steps"), desk.told("came"), desk.told("go 5")], ["-", "climb +", "0", "-", "0 -"])

    def test_another_walk_comes_in_the_place_of_one_that_was(self):
        desk = prepared(*BEGUN, "begin two", "go 3")
        self.same([desk.told("state"), desk.told("begin two"), desk.told("steps"), desk.told("came"), desk.told("begin three"), desk.told("labels")],
                  ["clash", "+0", "0", "-", "+00", "1"])

    def test_a_label_that_lacks(self):
        desk = prepared(*BEGUN, "begin bad", "go 1000")
        self.same([desk.told(ask) for ask in WALK_ASKS], ["0+ -+", "7 -", "1", "3", "clash"])
        self.same([judged(SHUT).parts, desk.told("judge bad")], [((1,), (0,)), "clash 1 / 0"])

    def test_walks_of_many_thousand_chains(self):
        for filling, many in ((Filling(RING, WALKS[2002]), 2002), (LONG_CLASH, 3085)):
            desk = prepared(f"teams ring {filling.teams}", "fill rooms ring " + " ".join(map(str, filling.rooms)), "begin rooms")
            gone = [int(desk.told("go 1000").split(" ")[0]) for _ in range(many // 1000 + 2)]
            self.same([sum(gone), gone[0], gone[-1], desk.told("steps"), desk.told("at")], [many - 1, 1000, 0, str(many - 1), " ".join(end_of(filling)[1])])
            self.same(desk.told("state"), "clash" if filling is LONG_CLASH else "climb " + turns_of(filling, end_of(filling)[1]))
            self.same([desk.back(), desk.back(), desk.told("go 7").split(" ")[0]], ["go 1000", "go 1000", "7" if many % 1000 > 8 else str((many - 1) % 1000)])

    def test_all_chains_of_a_walk(self):
        table = wave_table(4)
        desk = prepared(f"table one {table}", "begin one")
        found = [desk.told("at")] + [desk.told("go 1").partition(" ")[2] for _ in range(23)]
        self.same(found, [" ".join(chain) for chain in walk_of(table)])
        self.same(desk.told("go 1"), "0 " + found[-1])


class Back(Case):
    def test_nothing_to_take_back(self):
        self.raises(Nothing, {}, Desk().back)
        desk = prepared("table two 1 / 5")
        self.same([desk.back(), desk.log, desk.told("names")], ["table two 1 / 5", (), "-"])
        self.raises(Nothing, {}, desk.back)

    def test_over_all_deeds(self):
        lines = BEGUN + ("begin two", "go 1", "drop two", "go 1", "lots two 4 2", "begin good", "drop good", "go 2", "go 1000", "go 5", "fill good two 1 2 3 4 5 6", "drop ones",
                         "begin three", "begin good", "go 3", "drop good", "drop bad", "table good 1 / 1")
        asks = [f"{word} {name}" for word in ("text", "pair", "need", "judge") for name in ("two", "ones", "good", "bad", "three")] + ["names", *WALK_ASKS]
        desk = Desk()
        seen = []
        for line in lines:
            seen.append([outcome(desk.told, ask) for ask in asks])
            desk.told(line)
        for at in range(len(lines) - 1, -1, -1):
            self.same([desk.back(), desk.log], [lines[at], lines[:at]])
            self.same([outcome(desk.told, ask) for ask in asks], seen[at])
            self.same(desk == prepared(*lines[:at]), True)
        self.raises(Nothing, {}, desk.back)

    def test_deeds_again_after_they_were_taken_back(self):
        desk = prepared(*BEGUN, "begin good", "go 2")
        before = [desk.told(ask) for ask in WALK_ASKS]
        self.same([desk.back(), desk.told("steps"), desk.told("go 2").split(" ")[0]], ["go 2", "0", "2"])
        self.same([desk.told(ask) for ask in WALK_ASKS], before)


class Logs(Case):
    def test_the_log_is_a_tuple_of_the_deeds(self):
        desk = Desk()
        self.same([desk.log, type(desk.log)], [(), tuple])
        for line in ALL_LINES:
            outcome(desk.told, line)
        # The table is dropped before its walk would begin.
        self.same(desk.log, ALL_LINES[:5])

    def test_equal_if_the_logs_are(self):
        one, other = prepared(*BEGUN), prepared(*BEGUN)
        self.same([one == other, one != other, Desk() == Desk(), one == Desk(), prepared("table a 1 / 1") == prepared("table b 1 / 1")],
                  [True, False, True, False, False])
        one.told("names")
        self.same(one == other, True)
        one.told("begin two")
        self.same(one == other, False)
        one.back()
        self.same(one == other, True)
        # Dropped again nothing is kept by either, but the logs are not alike.
        self.same(prepared("table a 1 / 1", "drop a") == Desk(), False)
        for value in (None, (), BEGUN, one.log, "desk", 0, False, object()):
            with self.subTest(value=value):
                self.same([one == value, value == one, Desk() == value], [False] * 3)

    def test_desks_do_not_share_what_they_keep(self):
        one, other = Desk(), Desk()
        one.told("table a 1 / 1")
        self.same([other.told("names"), other.log, one.told("names")], ["-", (), "a"])


class Drawn(Case):
    NAMES = ("a", "b", "c", "d")

    def any_line(self, source):
        """A line, mostly a right one."""
        def pick(choices):
            return choices[next(source) % len(choices)]
        word = pick(DEEDS + DEEDS + ("go", "begin", "fill", "text", "label", "pair", "most", "need", "free", "judge", "names", *WALK_ASKS))
        name, other, many = pick(self.NAMES), pick(self.NAMES), next(source) % 3 + 1
        texts = {
            "table": lambda: f"table {name} {any_table(many, pick((1, 2, 3, 9)), source)}", "teams": lambda: f"teams {name} {some_teams(many, 4, source)}",
            "lots": lambda: f"lots {name} {pick((1, 2, 3, 4))} {pick((1, 2, 3))}", "go": lambda: f"go {pick((1, 2, 3, 50, 1000, 0))}",
            "fill": lambda: f"fill {name} {other} " + " ".join(str(next(source) % 3 + 1) for _ in range(pick((1, 2, 3, 3, 6)))),
            "label": lambda: f"label {name} {pick(('+', '-0', '+-', '-+0', '0--', '++-', '000', '+-00'))}",
            "free": lambda: f"free {name} {pick(('+', '-0', '+-', '-+0', '0--', '+-+', '', '+-00'))}",
        }
        line = texts[word]() if word in texts else word if word in WALK_ASKS + ("names",) else f"{word} {name}"
        return line + pick(("",) * 30 + (" ", " 1", "\n"))

    def test_against_the_model(self):
        source = numbers(165)
        seen = set()
        for _ in range(12):
            desk, model = Desk(), Model()
            for number in range(250):
                if next(source) % 9 == 0 and model.log:
                    self.same(desk.back(), model.log[-1])
                    model.log.pop()
                    model = model.again()
                else:
                    line = self.any_line(source)
                    wanted = outcome(model.told, line)
                    with self.subTest(line=line, log=model.log):
                        self.same(outcome(desk.told, line), wanted)
                    seen.add((line.split(" ")[0], wanted[0] if isinstance(wanted, tuple) else None))
                self.same(desk.log, tuple(model.log))
            self.same(desk == prepared(*model.log), True)
        self.assertTrue({(word, None) for word in DEEDS + WALK_ASKS} <= seen)
        self.assertTrue({("fill", error) for error in (BadText, Twice, NoName, Misfit, BadFilling)} <= seen)


if __name__ == "__main__":
    unittest.main()
