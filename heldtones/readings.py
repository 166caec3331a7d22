"""Ratios and books that are read from texts."""

from heldtones.books import Book
from heldtones.errors import ToneError, Unreadable
from heldtones.texts import show_book

DIGITS = "0123456789"
MOST_DIGITS = 2
EXPONENTS = 3


def read_ratio(text):
    """Return the ratio with a text."""
    numbers = [_integer(word) for word in text.split(",")]
    if len(numbers) != EXPONENTS or None in numbers:
        raise Unreadable(text)
    return (numbers[0], numbers[1], numbers[2])


def read_book(text):
    """Return the book with a text."""
    try:
        book = _book(text)
    except ToneError:
        raise Unreadable(text) from None
    # Whatever is out of its place, the book has another text then.
    if show_book(book) != text:
        raise Unreadable(text)
    return book


def _integer(word):
    """Return the integer with a text, None if none has it."""
    digits = word.removeprefix("-")
    if not 1 <= len(digits) <= MOST_DIGITS or not all([sign in DIGITS for sign in digits]):
        return None
    number = int(word)
    # Zeros ahead, and a minus ahead of a zero, are not shown.
    if str(number) != word:
        return None
    return number


def _book(text):
    """Return the only book that may have a text, or raise an error if there is none."""
    chords = []
    changes = []
    if text != "":
        for item in text.split("; "):
            if item.startswith("chord "):
                chords.append(_chord(item))
            else:
                changes.append(_change(item))
    return Book(chords, changes)


def _chord(item):
    """Return the name and the tones of a chord with a text."""
    words = item.split(" ")
    return (words[1], [read_ratio(word) for word in words[2:]])


def _change(item):
    """Return the name and the ends of a change with a text."""
    words = item.split(" ")
    if len(words) != 4:
        raise Unreadable(item)
    first, held = _end(words[1])
    second, same = _end(words[3])
    return (words[0].removesuffix(":"), first, held, second, same)


def _end(word):
    """Return the chord and the index of its tone that are told by a text."""
    chord, _, index = word.partition(".")
    place = _integer(index)
    if place is None:
        raise Unreadable(word)
    return (chord, place)
