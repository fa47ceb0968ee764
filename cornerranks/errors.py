"""The errors of the package, each one alone under CornerError."""


class CornerError(ValueError):
    """An argument is not as it has to be."""


class InvalidTable(CornerError):
    """What was given is no table."""

    def __init__(self, given):
        super().__init__("no table was given")
        self.given = given


class InvalidSquare(CornerError):
    """What was given is no square table."""

    def __init__(self, given):
        super().__init__("no square table was given")
        self.given = given


class InvalidLot(CornerError):
    """What was given is no lot of so many."""

    def __init__(self, given):
        super().__init__("no lot that fits was given")
        self.given = given


class InvalidNumber(CornerError):
    """What was given is no whole number within the bounds."""

    def __init__(self, given):
        super().__init__("no whole number within the bounds was given")
        self.given = given


class InvalidCarrying(CornerError):
    """What was given is no carrying."""

    def __init__(self, given):
        super().__init__("no carrying was given")
        self.given = given


class InvalidBand(CornerError):
    """What was given is no band."""

    def __init__(self, given):
        super().__init__("no band was given")
        self.given = given


class InvalidRow(CornerError):
    """Some number of a row is no fraction, or (None) it is no row of so many."""

    def __init__(self, index):
        super().__init__("no row that fits was given")
        self.index = index


class InvalidRanks(CornerError):
    """Some number of a row of ranks is no rank, or (None) it is no row of so many."""

    def __init__(self, index):
        super().__init__("no ranks that fit were given")
        self.index = index


class InvalidCarrier(CornerError):
    """Some place of a carrier is wrong, or (None) it is no tuple of places."""

    def __init__(self, index):
        super().__init__("no carrier was given")
        self.index = index


class InvalidSizes(CornerError):
    """Some size is no size, or (None) they are no tuple of so many."""

    def __init__(self, index):
        super().__init__("no sizes that fit were given")
        self.index = index


class InvalidBases(CornerError):
    """Some base is none of its size, or (None) they are no tuple of so many."""

    def __init__(self, index):
        super().__init__("no bases that fit were given")
        self.index = index


class InvalidWeb(CornerError):
    """Some tie of a web is wrong, or (None) it is no tuple of so many."""

    def __init__(self, index):
        super().__init__("no web that fits was given")
        self.index = index


class InvalidStairs(CornerError):
    """Some row of stairs is wrong, or (None) they are no tuple of rows."""

    def __init__(self, index):
        super().__init__("no stairs that fit were given")
        self.index = index


class NotRegular(CornerError):
    """A table, or a part of one, has no inverse where one is needed."""


class NotLeast(CornerError):
    """A carrier is not least where it has to be."""


class UnlikeSizes(CornerError):
    """Two arguments do not fit together in size."""
