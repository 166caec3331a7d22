"""Ratios and books as texts."""


def show_ratio(ratio):
    """Return the exponents of a ratio, separated by commas."""
    return ",".join([str(exponent) for exponent in ratio])


def show_book(book):
    """Return the chords and the changes of a book, separated by semicolons."""
    chords = [_show_chord(name, tones) for name, tones in book.chords]
    return "; ".join(chords + [_show_change(change) for change in book.changes])


def _show_chord(name, tones):
    """Return the text of a chord."""
    return " ".join(["chord", name] + [show_ratio(tone) for tone in tones])


def _show_change(change):
    """Return the text of a change."""
    name, first, held, second, same = change
    return f"{name}: {first}.{held} = {second}.{same}"
