"""The errors of the program, each with the value that it is about."""


class ToneError(ValueError):
    """What every error of the program is."""

    def __init__(self, value):
        self.value = value


class InvalidName(ToneError):
    """A name is not one to eight letters from a to z."""


class DoubleName(ToneError):
    """A name stands ahead already."""


class DoubleTone(ToneError):
    """A tone stands ahead in its chord already."""


class InvalidTone(ToneError):
    """An index is that of no tone of its chord."""


class UnknownChord(ToneError):
    """A name is that of no chord of the book."""


class UnknownChange(ToneError):
    """A name is that of no change of the book."""


class WrongSong(ToneError):
    """A change does not lead from the chord from which it should."""


class WrongNumbers(ToneError):
    """Numbers of changes are those of no song."""


class NotEven(ToneError):
    """A change of a part cannot be made good."""


class UnlikeParts(ToneError):
    """Two chords are not in one part."""


class NothingToUndo(ToneError):
    """There is no change to take back."""


class Unreadable(ToneError):
    """A text is that of no ratio or book."""
