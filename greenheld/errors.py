"""All errors of the package. Each keeps copies of what it is told."""


def copied(value):
    """An equal value whose lists and dicts, however deep, are its own."""
    if isinstance(value, list):
        return [copied(part) for part in value]
    if isinstance(value, tuple):
        return tuple([copied(part) for part in value])
    if isinstance(value, dict):
        # Keys hold neither lists nor dicts, so they need no copy.
        return {key: copied(value[key]) for key in value}
    return value


class TownError(ValueError):
    """Above all errors of the package."""


class BadText(TownError):
    """A text that cannot be read; place tells how much of it could go on."""

    def __init__(self, place):
        self.place = copied(place)


class BadTown(TownError):
    """A value that is no right town."""

    def __init__(self, word):
        self.word = copied(word)


class BadPlan(TownError):
    """A value that is no plan."""

    def __init__(self, word):
        self.word = copied(word)


class BadEvent(TownError):
    """A value that is no event of its world."""

    def __init__(self, number):
        self.number = copied(number)


class BadDisk(TownError):
    """A disk that cannot be read."""

    def __init__(self, place):
        self.place = copied(place)


class NoFlow(TownError):
    """There is no flow."""


class TooMany(TownError):
    """There are too many."""


class NothingDone(TownError):
    """There is nothing to take back, or to do again."""
