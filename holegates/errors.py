"""The errors of the package: each keeps its fields as they were passed."""


class HoleError(ValueError):
    """The base of all errors of the package."""


class BadTable(HoleError):
    """An argument is no table."""

    def __init__(self, part):
        self.part = part


class BadNet(HoleError):
    """An argument is no net, or a part of a net is malformed."""

    def __init__(self, part):
        self.part = part


class BadTask(HoleError):
    """An argument is no task."""

    def __init__(self, part):
        self.part = part


class BadFilling(HoleError):
    """An argument is no filling."""

    def __init__(self, part):
        self.part = part


class BadForm(HoleError):
    """An argument is no form."""

    def __init__(self, part):
        self.part = part


class BadNumber(HoleError):
    """An argument is no integer, no sign or no list of these, or out of its bounds."""

    def __init__(self, part):
        self.part = part


class BadPaper(HoleError):
    """An argument is no paper of the class that is told."""

    def __init__(self, part):
        self.part = part


class Misfit(HoleError):
    """Arguments that are right by themselves do not fit together."""

    def __init__(self, part):
        self.part = part


class Missing(HoleError):
    """A value that is none here; only the classes below are raised."""

    def __init__(self, value):
        self.value = value


class NoWire(Missing):
    """No wire, or no gate, has this name."""


class NoHole(Missing):
    """No hole has this number."""


class NoRow(Missing):
    """No row has this number."""


class NoPlace(Missing):
    """No place of the table has this number."""


class Twice(HoleError):
    """A value stands twice where all must be unlike."""

    def __init__(self, value):
        self.value = value


class Impossible(HoleError):
    """There is no answer, as the paper, a denial, shows."""

    def __init__(self, paper):
        self.paper = paper


class TooMany(HoleError):
    """There are more of what is told than the most that is allowed."""

    def __init__(self, what, most):
        self.what = what
        self.most = most


class BadText(HoleError):
    """A text cannot be read on at this item; whoever raises it passes 0 as the line."""

    def __init__(self, line, item):
        self.line = line
        self.item = item
