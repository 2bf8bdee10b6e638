"""The errors: each kind of refusal has a class of its own, straight under CryError."""


class CryError(ValueError):
    """A refusal of any kind."""


class NoWeb(CryError):
    """What was handed in is no web."""


class NoPlace(CryError):
    """What was handed in is no place of the web."""


class NoStarters(CryError):
    """What was handed in is no list of unlike folk of the web, one at least."""


class NoBeat(CryError):
    """What was handed in is no beat, or no number of beats that may stand there."""


class NoNeighbour(CryError):
    """The second place is no neighbour of the first."""


class NoRecord(CryError):
    """What was handed in is no record of what watchers heard."""


class NoFolk(CryError):
    """What was handed in are no two unlike folk of the web."""


class Taken(CryError):
    """These two have a way already."""


class NoWay(CryError):
    """These two have no way."""


class NoTellings(CryError):
    """What was handed in is no list of unlike tellings of the web."""


class NoCry(CryError):
    """What was handed in is no name, or no cry that has begun."""


class Twice(CryError):
    """A cry of this name has begun already."""


class Busy(CryError):
    """Some cry is not quiet yet."""


class Nothing(CryError):
    """There is no deed to undo."""


class NoForm(CryError):
    """What was handed in is no row of the desk."""


class NoNight(CryError):
    """The desk has no Night yet."""


class TooMany(CryError):
    """There are more than are wanted: `many` of them."""

    def __init__(self, many):
        super().__init__(f"{many} are too many")
        self.many = many


class NoText(CryError):
    """What was handed in writes nothing: `row` is the first row without a form, or None."""

    def __init__(self, row):
        super().__init__(f"no text, by row {row}")
        self.row = row
