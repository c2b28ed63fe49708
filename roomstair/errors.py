"""The errors of the package, each one with its fields as attributes."""


class StairError(ValueError):
    """The base of all errors of the package; nothing is made of it alone."""


class BadNumber(StairError):
    """No integer, or none within the bounds that are told."""

    def __init__(self, part):
        self.part = part


class BadRow(StairError):
    """No row, or no sides of one."""

    def __init__(self, part):
        self.part = part


class BadChain(StairError):
    """No chain, or no d-chain where one is wanted."""

    def __init__(self, part):
        self.part = part


class BadLabels(StairError):
    """No list of labels."""

    def __init__(self, part):
        self.part = part


class BadTable(StairError):
    """No Table, or no labels of one."""

    def __init__(self, part):
        self.part = part


class BadLabelling(StairError):
    """Neither a Table nor a Filling."""

    def __init__(self, part):
        self.part = part


class BadTeams(StairError):
    """No Teams, no list of teams, or no team."""

    def __init__(self, part):
        self.part = part


class BadFilling(StairError):
    """No Filling, or no rooms of one."""

    def __init__(self, part):
        self.part = part


class BadOrder(StairError):
    """No list of all people or places, each once."""

    def __init__(self, part):
        self.part = part


class BadWeb(StairError):
    """No Web, no ties or no hues of one."""

    def __init__(self, part):
        self.part = part


class Misfit(StairError):
    """What does not fit together with the other arguments."""

    def __init__(self, part):
        self.part = part


class NoName(StairError):
    """A name of nothing that is kept."""

    def __init__(self, value):
        self.value = value


class Twice(StairError):
    """A value that stands there already."""

    def __init__(self, value):
        self.value = value


class TooMany(StairError):
    """There are more than most."""

    def __init__(self, what, most):
        self.what = what
        self.most = most


class Nothing(StairError):
    """There is nothing to go on from."""

    def __init__(self):
        pass


class BadText(StairError):
    """A text of which an item cannot stand, or lacks."""

    def __init__(self, line, item):
        self.line = line
        self.item = item


class BadLine(StairError):
    """The number of a line, and the error that was raised there."""

    def __init__(self, line, error):
        self.line = line
        self.error = error
