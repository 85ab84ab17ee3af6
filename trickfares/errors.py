"""The errors of the program.

Their messages name no values: a value may be of any kind and size, and not each one can be written as a text.
"""


def _copied(value):
    """A copy of a value with the lists and dicts in it, since an object keeps copies of what it is passed."""
    if isinstance(value, list):
        return [_copied(part) for part in value]
    if isinstance(value, tuple):
        return tuple([_copied(part) for part in value])
    if isinstance(value, dict):
        return {key: _copied(value[key]) for key in value}
    return value


class FareError(ValueError):
    """The base class of all errors of the program."""


class InvalidText(FareError):
    """A row is in no text form after the rows before it, or rows are missing."""

    def __init__(self, row):
        FareError.__init__(self, "a row is in no text form, or rows are missing")
        self.row = _copied(row)


class TooLarge(FareError):
    """There is more of something than the bound allows."""

    def __init__(self, bound):
        FareError.__init__(self, "a bound is passed")
        self.bound = _copied(bound)


class UnknownLetter(FareError):
    """The character at a place of a history is no letter of the system."""

    def __init__(self, place):
        FareError.__init__(self, "a character is no letter of the system")
        self.place = _copied(place)


class NotComparable(FareError):
    """Two systems have different letters."""

    def __init__(self):
        FareError.__init__(self, "the systems have different letters")


class Unbounded(FareError):
    """The gains of a net are unbounded: its round trip can be repeated between the way and the rest."""

    def __init__(self, way, round_trip, rest):
        FareError.__init__(self, "the gains of the net are unbounded")
        self.way = _copied(way)
        self.round_trip = _copied(round_trip)
        self.rest = _copied(rest)


class NoFactor(FareError):
    """There is no long-run factor: on the round trip only the first system costs something."""

    def __init__(self, way, round_trip):
        FareError.__init__(self, "the systems have no long-run factor")
        self.way = _copied(way)
        self.round_trip = _copied(round_trip)


class BadPlace(FareError):
    """A place is not one of the history."""

    def __init__(self, place):
        FareError.__init__(self, "the history has no such place")
        self.place = _copied(place)


class InvalidRow(FareError):
    """A row for the console has none of the forms."""

    def __init__(self, row):
        FareError.__init__(self, "the row has none of the forms")
        self.row = _copied(row)


class UnknownName(FareError):
    """No system has the name."""

    def __init__(self, name):
        FareError.__init__(self, "no system has the name")
        self.name = _copied(name)
