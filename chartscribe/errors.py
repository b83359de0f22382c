"""The refusals: one class for each kind, all directly under ChartError."""


class ChartError(ValueError):
    """Any refusal."""


class NoFraction(ChartError):
    """No fraction can be made so."""


class NoNumber(ChartError):
    """A fraction that isn't written as a number, or a text that writes none."""


class NoTable(ChartError):
    """No table can be made so; row says where: -1 for the series."""

    def __init__(self, row):
        super().__init__(f"no table, at row {row}")
        self.row = row


class NoText(ChartError):
    """A text that writes no table; row is the number of its first wrong row."""

    def __init__(self, row):
        super().__init__(f"no text of a table, at row {row}")
        self.row = row


class NoSize(ChartError):
    """A size that no drawing has."""

    def __init__(self, size):
        # The size isn't in the message: Python does not show a number of many thousand figures.
        super().__init__("no drawing has this size")
        self.size = size


class Below(ChartError):
    """A number below 0 where none is let, by the names of its row and series."""

    def __init__(self, row, series):
        super().__init__(f"a number below 0, at row {row}, series {series}")
        self.row = row
        self.series = series


class NoSheet(ChartError):
    """A list of texts that is no plan's sheet."""


class NoChange(ChartError):
    """A change that doesn't fit; at is the number of its first wrong tuple."""

    def __init__(self, at):
        super().__init__(f"no change, at tuple {at}")
        self.at = at


class NoName(ChartError):
    """A name by which nothing stands."""

    def __init__(self, name):
        super().__init__(f"nothing stands by the name {name}")
        self.name = name


class NoRow(ChartError):
    """A text that the desk does not take."""
