"""A desk keeps Tables, Teams and Fillings by names, and goes on with a walk step by step."""

from roomstair.answers import KINDS, asked_answer, is_kind, kept_answer
from roomstair.errors import Misfit, NoName, Nothing, Twice
from roomstair.fillings import Filling
from roomstair.lines import line_parts
from roomstair.lots import all_teams
from roomstair.strolls import at_answer, begun, gone_on, stroll_answer

DEEDS = ("table", "teams", "lots", "fill", "drop", "begin", "go")


class Desk:
    """A desk, at first without anything; its log are the lines of its deeds."""

    def __init__(self):
        self.log = ()
        self._kept = {}
        self._stroll = None
        # For each deed of the log a name, what this kept before, and the walk before.
        self._past = []

    def __eq__(self, other):
        return isinstance(other, Desk) and self.log == other.log

    def told(self, line):
        """Tell the desk a line; its answer."""
        word, parts = line_parts(line)
        if word not in DEEDS:
            return self._asked(word, parts)
        # Worked out first, as a deed that raises an error changes nothing.
        name, value, stroll, answer = self._deed(word, parts)
        self._past.append((name, self._kept.get(name), self._stroll))
        self._put(name, value)
        self._stroll = stroll
        self.log = (*self.log, line)
        return answer

    def back(self):
        """Take the last deed back; its line."""
        if not self._past:
            raise Nothing()
        name, value, self._stroll = self._past.pop()
        self._put(name, value)
        line = self.log[-1]
        self.log = self.log[:-1]
        return line

    def _put(self, name, value):
        """Let a name keep a value, or nothing, if this is None; no name is None."""
        if value is not None:
            self._kept[name] = value
        elif name in self._kept:
            del self._kept[name]

    def _wanted(self, name, kind):
        """What a name keeps, of the kind that is wanted."""
        if name not in self._kept:
            raise NoName(name)
        if not is_kind(self._kept[name], kind):
            raise Misfit(kind)
        return self._kept[name]

    def _begun(self):
        """The walk that goes on."""
        if self._stroll is None:
            raise Nothing()
        return self._stroll

    def _asked(self, word, parts):
        """The answer to what is asked."""
        if word == "names":
            return " ".join(sorted(self._kept)) if self._kept else "-"
        if not parts:
            return stroll_answer(word, self._begun())
        name, *rest = parts
        return asked_answer(word, self._wanted(name, KINDS[word]), rest)

    def _made(self, word, parts):
        """What is to be kept by a name."""
        if word == "lots":
            return all_teams(parts[1], parts[2])
        if word == "fill":
            return Filling(self._wanted(parts[1], "teams"), parts[2])
        return parts[1]

    def _deed(self, word, parts):
        """The name that keeps something else from now on, None for none; what; the walk from now on; the answer."""
        if word == "begin":
            stroll = begun(self._wanted(parts[0], "labelling"))
            return None, None, stroll, at_answer(stroll)
        if word == "go":
            stroll = gone_on(self._begun(), parts[0])
            return None, None, stroll, f"{stroll.steps - self._stroll.steps} {at_answer(stroll)}"
        name = parts[0]
        if word == "drop":
            self._wanted(name, None)
            return name, None, self._stroll, name
        if name in self._kept:
            raise Twice(name)
        value = self._made(word, parts)
        return name, value, self._stroll, kept_answer(value)
