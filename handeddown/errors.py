"""The errors of the package, one class for each kind of failure."""


class NoWants(RuntimeError):
    """Something is wanted for this, and the wants are ()."""


class Clashing(RuntimeError):
    """Two tied folders want unlike values, so that no plan serves."""


class IsRoot(RuntimeError):
    """The folder is the root, with which this cannot be done."""


class Locked(LookupError):
    """A locked folder had to be written."""

    def __init__(self, folder):
        self.folder = folder


class Below(LookupError):
    """The parent is the folder itself, or stands below it."""

    def __init__(self, folder, parent):
        self.folder = folder
        self.parent = parent


class BadText(ValueError):
    """The text is not that of any pairs."""


class BadLine(ValueError):
    """The line of this number, counted from 0, is wrong."""

    def __init__(self, number):
        self.number = number
