"""The errors of the program.

The messages do not show the values, which may be of any kind and size.
"""


class WearError(ValueError):
    """The base class of all errors."""


class InvalidText(WearError):
    """A row of a text is not of its form."""

    def __init__(self, row):
        super().__init__("a row of the text is not of its form")
        self.row = row


class CannotTake(WearError):
    """No two points may be taken out at a place."""

    def __init__(self, place):
        super().__init__("no two points may be taken out at this place")
        self.place = place


class NoLoad(WearError):
    """A cycle is not contained in the range of a rest."""

    def __init__(self, cycle):
        super().__init__("no load has this cycle and this rest")
        self.cycle = cycle


class TooLarge(WearError):
    """There are more things than a function takes."""

    def __init__(self, count):
        super().__init__("there are too many")
        self.count = count


class More(WearError):
    """The first list wears more under a table."""

    def __init__(self, table):
        super().__init__("there is a table under which the first list wears more")
        self.table = table


class NoFactor(WearError):
    """Two lists have no factor, as a table shows."""

    def __init__(self, table):
        super().__init__("the lists have no factor")
        self.table = table


class InvalidRow(WearError):
    """A row of the console has none of the forms."""

    def __init__(self, row):
        super().__init__("the row has none of the forms")
        self.row = row


class UnknownName(WearError):
    """No load has a name."""

    def __init__(self, name):
        super().__init__("no load has this name")
        self.name = name
