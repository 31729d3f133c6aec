"""The refusals of the program."""


class ShelfError(ValueError):
    """Any refusal."""


class BadCount(ShelfError):
    """There are not 1 to 9 keepers."""


class NoKeeper(ShelfError):
    """A keeper is not there."""


class BadMark(ShelfError):
    """A mark does not fit the keepers, or another mark."""


class BadNote(ShelfError):
    """A text does not write a mark of so many keepers."""
