"""Books that are drawn, and what of the document is worked out here apart from the program."""

from heldtones.books import Book, follow

UNISON = (0, 0, 0)
CHANGE_NAMES = ["up", "down", "to", "fro", "far", "near", "stay"]


def draw(source, most=1, chords=5, changes=7):
    """A book within the bounds: exponents of tones from -most to most."""
    names = source.sample("abcdefgh", source.randint(1, chords))
    told = []
    for name in names:
        tones = [tuple(source.randint(-most, most) for _ in range(3))
                 for _ in range(source.randint(1, 5))]
        told.append((name, list(dict.fromkeys(tones))))
    sizes = {name: len(tones) for name, tones in told}
    ways = []
    for name in source.sample(CHANGE_NAMES, source.randint(0, changes)):
        one, other = source.choice(names), source.choice(names)
        ways.append((name, one, source.randrange(sizes[one]), other, source.randrange(sizes[other])))
    return Book(told, ways)


def draw_even(source, most=1):
    """A book of one part that is even: each change has one that undoes it, or does not drift."""
    names = source.sample("abcdefgh", source.randint(1, 4))
    told = []
    for name in names:
        tones = [tuple(source.randint(-most, most) for _ in range(3)) for _ in range(4)]
        told.append((name, list(dict.fromkeys(tones + [UNISON]))))
    sizes = {name: len(tones) for name, tones in told}
    ways = []
    for one, other in list(zip(names, names[1:])) + [(source.choice(names), source.choice(names))]:
        ends = (one, source.randrange(sizes[one]), other, source.randrange(sizes[other]))
        ways += [ends, ends[2:] + ends[:2]]
    source.shuffle(ways)
    return Book(told, [(name,) + ends for name, ends in zip(CHANGE_NAMES + ["back"], ways)])


def songs(book, chord, most):
    """The songs from a chord of up to so many changes, in their order, as (song, end, shift)."""
    level = [([], chord, UNISON)]
    for _ in range(most + 1):
        yield from level
        level = [(song + [name], second, plus(shift, book.shift(name)))
                 for song, now, shift in level
                 for name, first, _, second, _ in book.changes if first == now]


def plus(one, other, many=1):
    return tuple(a + many * b for a, b in zip(one, other))


def part_of(book, chord):
    """The chords that are in one part with a chord: songs of fewer changes than chords tell."""
    many = len(book.chords)

    def ends(start):
        found = {start}
        for _ in range(many):
            found |= {change[3] for change in book.changes if change[1] in found}
        return found

    return [name for name, _ in book.chords if name in ends(chord) and chord in ends(name)]


def changes_in(book, chord):
    part = part_of(book, chord)
    return [change[0] for change in book.changes if change[1] in part and change[3] in part]


def first_chord(book, name):
    return next(change[1] for change in book.changes if change[0] == name)


def is_in_part(book, name):
    return name in changes_in(book, first_chord(book, name))


def surpluses(book, numbers):
    """How many more changes lead to each chord than from it."""
    found = {name: 0 for name, _ in book.chords}
    counts = dict(numbers)
    for name, first, _, second, _ in book.changes:
        found[first] -= counts.get(name, 0)
        found[second] += counts.get(name, 0)
    return found


def shift_of(book, numbers):
    shift = UNISON
    for name, number in numbers:
        shift = plus(shift, book.shift(name), number)
    return shift


def rounds(book, numbers):
    """Songs that come back, of small numbers that are those of such songs together."""
    left = {name: number for name, number in numbers}
    told = []
    while any(left.values()):
        start = now = next(change[1] for change in book.changes if left.get(change[0]))
        song = []
        # All balances are even: a song only ends where it began.
        while step := next((change for change in book.changes
                            if change[1] == now and left.get(change[0])), None):
            left[step[0]] -= 1
            song.append(step[0])
            now = step[3]
        told.append((start, song))
    return told


def hang_together(book, chord, numbers):
    counts = dict(numbers)
    found = {chord}
    steps = [change for change in book.changes if counts.get(change[0])]
    for _ in range(len(book.chords)):
        for change in steps:
            if {change[1], change[3]} & found:
                found |= {change[1], change[3]}
    return all(change[1] in found for change in steps)


def check_form(case, book, numbers):
    """Check that numbers are above 0, for changes in their order."""
    case.assertIs(type(numbers), list)
    names = [change[0] for change in book.changes]
    places = [names.index(name) for name, _ in numbers]
    case.assertEqual(places, sorted(set(places)))
    for pair in numbers:
        case.assertEqual([type(pair), type(pair[0]), type(pair[1])], [tuple, str, int])
        case.assertGreater(pair[1], 0)


def check_even(case, book, name, numbers):
    """Check that numbers are those of songs in the part of a change that are even together."""
    check_form(case, book, numbers)
    case.assertIn(name, dict(numbers))
    case.assertLessEqual(set(dict(numbers)), set(changes_in(book, first_chord(book, name))))
    case.assertEqual(set(surpluses(book, numbers).values()), {0})
    case.assertEqual(shift_of(book, numbers), UNISON)
    if sum(dict(numbers).values()) <= 200:
        drift = UNISON
        for start, song in rounds(book, numbers):
            end, shift = follow(book, start, song)
            case.assertEqual(end, start)
            drift = plus(drift, shift)
        case.assertEqual(drift, UNISON)


def check_weights(case, book, name, told):
    """Check that weights and heights show that a change of a part cannot be made good."""
    case.assertEqual([type(told), type(told[0]), type(told[1])], [tuple, tuple, list])
    weights, heights = told
    case.assertEqual([type(weight) for weight in weights], [int] * 3)
    case.assertEqual([type(pair) for pair in heights], [tuple] * len(heights))
    case.assertEqual([type(pair[1]) for pair in heights], [int] * len(heights))
    if not is_in_part(book, name):
        case.assertEqual(told, ((0, 0, 0), []))
        return
    chord = first_chord(book, name)
    case.assertEqual([pair[0] for pair in heights], part_of(book, chord))
    worths = weigh(book, chord, weights, heights)
    case.assertGreaterEqual(min(worths.values()), 0)
    case.assertGreaterEqual(worths[name], 1)


def weigh(book, chord, weights, heights):
    """What each change of a part weighs, with heights."""
    table = dict(heights)
    found = {}
    for name, first, _, second, _ in book.changes:
        if name in changes_in(book, chord):
            worth = sum(weight * part for weight, part in zip(weights, book.shift(name)))
            found[name] = worth + table[second] - table[first]
    return found


def check_rests(case, book, chord, other, ratio, told):
    """Check that a modulus, weights and heights show that no song has a ratio as its shift."""
    case.assertEqual([type(part) for part in told], [int, tuple, list])
    modulus, weights, heights = told
    case.assertGreaterEqual(modulus, 0)
    case.assertEqual([type(weight) for weight in weights], [int] * 3)
    case.assertEqual([pair[0] for pair in heights], part_of(book, chord))
    case.assertEqual([(type(pair), type(pair[1])) for pair in heights], [(tuple, int)] * len(heights))

    def rest(worth):
        return worth % modulus if modulus else worth

    for worth in weigh(book, chord, weights, heights).values():
        case.assertEqual(rest(worth), 0)
    table = dict(heights)
    worth = sum(weight * part for weight, part in zip(weights, ratio))
    case.assertNotEqual(rest(worth + table[other] - table[chord]), 0)


def is_multiple_of_rows(ratio, rows):
    """Whether a ratio is a product of powers of rows in their least form."""
    for row in rows:
        place = next(k for k in range(3) if row[k])
        if ratio[place] % row[place]:
            return False
        ratio = plus(ratio, row, -(ratio[place] // row[place]))
    return ratio == UNISON


def part_rounds(book, chord):
    """The drifts of the songs in a part that come back, each chord at most once, but the first."""
    names = changes_in(book, chord)
    small = Book(book.chords, [change for change in book.changes if change[0] in names])
    part = part_of(book, chord)
    return [shift for start in part for song, end, shift in songs(small, start, len(part))
            if end == start and len({first_chord(book, name) for name in song}) == len(song)]
