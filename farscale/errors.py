"""The errors of the package; each has its arguments as attributes."""


class FarscaleError(ValueError):
    """What was handed in does not hold together."""


class NameMissing(LookupError):
    """A name stands for nothing here."""


class BadScale(FarscaleError):
    """The names, tables or counts make no scale."""


class BadName(FarscaleError):
    """A string is no name."""

    def __init__(self, name):
        super().__init__(f"{name!r} is no name")
        self.name = name


class TwiceTold(FarscaleError):
    """A name is told a second time."""

    def __init__(self, name):
        super().__init__(f"{name!r} is told twice")
        self.name = name


class BadTable(FarscaleError):
    """A table has not the rows and entries that it should have."""


class NotSame(FarscaleError):
    """The unit does not lie within near of a point and itself."""

    def __init__(self, x):
        super().__init__(f"{x!r} is not near enough to itself")
        self.x = x


class NotThrough(FarscaleError):
    """A way through a second point is nearer than the straight one."""

    def __init__(self, x, y, z):
        super().__init__(f"{x!r} to {z!r} is nearer by way of {y!r}")
        self.x = x
        self.y = y
        self.z = z


class BadPath(FarscaleError):
    """A list of steps is no path."""

    def __init__(self, number):
        super().__init__(f"list {number} is no path")
        self.number = number


class MixedScales(FarscaleError):
    """Two scales should be the same and are not."""


class MixedSpaces(FarscaleError):
    """Two spaces should be the same and are not."""


class BadImages(FarscaleError):
    """A list of images has the wrong length."""


class Stretched(FarscaleError):
    """A map leads two points to points that are less near."""

    def __init__(self, x, y):
        super().__init__(f"{x!r} and {y!r} are stretched")
        self.x = x
        self.y = y


class NotAhead(FarscaleError):
    """A table does not fit its source."""

    def __init__(self, x, y, z):
        super().__init__(f"{x!r} to {z!r} is nearer by way of {y!r} in the source")
        self.x = x
        self.y = y
        self.z = z


class NotBehind(FarscaleError):
    """A table does not fit its target."""

    def __init__(self, x, y, z):
        super().__init__(f"{x!r} to {z!r} is nearer by way of {y!r} in the target")
        self.x = x
        self.y = y
        self.z = z


class TooMany(FarscaleError):
    """A space has more closed pairs than are worked out."""


class NotClosed(FarscaleError):
    """A column and a row are no closed pair."""


class NotKept(FarscaleError):
    """A map should keep all grades and does not."""


class BarePair(FarscaleError):
    """A closed pair is the pair of no point."""

    def __init__(self, column, row):
        super().__init__(f"no point has the column {column} and the row {row}")
        self.column = column
        self.row = row


class NotLoose(FarscaleError):
    """A map of scales is not loose."""


class NotFitting(FarscaleError):
    """Two maps do not fit each other."""


class Clash(FarscaleError):
    """A path of told steps breaks a told cap."""

    def __init__(self, name, path):
        super().__init__(f"the cap {name!r} is broken by the path {path}")
        self.name = name
        # A copy, for the list belongs to the one who handed it in.
        self.path = list(path)


class NothingDone(FarscaleError):
    """There is no change to take back."""


class UnknownGrade(NameMissing):
    """A name is no grade of the scale."""

    def __init__(self, name):
        super().__init__(f"there is no grade {name!r}")
        self.name = name


class UnknownPoint(NameMissing):
    """A name is no point of the space."""

    def __init__(self, name):
        super().__init__(f"there is no point {name!r}")
        self.name = name


class NotTold(NameMissing):
    """A name is that of no told step or cap."""

    def __init__(self, name):
        super().__init__(f"nothing is told as {name!r}")
        self.name = name
