"""A slow model of the document's words, tick by tick, that the tests compare the package with."""

import itertools

UNITS = {"0": 16, "1": 8, "2": 4, "3": 2, "4": 1}


def is_open(deed, tick, column, cell):
    """Whether a cell of the paper is open in a tick, from 0, of an exposure or a draw."""
    if deed[0] == "expose":
        return cell not in deed[2]
    return column == 0 or tick + deed[2] * column < deed[1]


def flipped_rows(width, densities):
    """The densities of a negative that is turned over, left to right."""
    rows = [densities[start:start + width] for start in range(0, len(densities), width)]
    return "".join(row[::-1] for row in rows)


def light(width, densities, recipe):
    """The units of light of all cells of the paper."""
    got = [0] * len(densities)
    for deed in recipe:
        if deed[0] == "flip":
            densities = flipped_rows(width, densities)
            continue
        for tick in range(deed[1]):
            for cell in range(len(got)):
                if is_open(deed, tick, cell % width, cell):
                    got[cell] += UNITS[densities[cell]]
    return tuple(got)


def tones(steps, got):
    """The text of the tones of cells by their light."""
    return "".join(str(sum(1 for step in steps if step <= units)) for units in got)


def all_texts(cells):
    """The densities of all negatives of so many cells, in tuple order."""
    return ["".join(figures) for figures in itertools.product("01234", repeat=cells)]


def first_parting(width, height, one, other):
    """The first densities that part two recipes, None if there are none."""
    for densities in all_texts(width * height):
        if light(width, densities, one) != light(width, densities, other):
            return densities
    return None


def sizes():
    """All pairs of a width and a height that a negative can have."""
    return [(width, height) for width in range(1, 5) for height in range(1, 5) if width * height <= 9]


def shows(print_made, seen):
    """Whether a print shows tones that were seen."""
    return len(print_made) == len(seen) and all(mark in ("?", tone) for tone, mark in zip(print_made, seen))


def seen_texts(cells, most):
    """All texts of tones, from 0 to a greatest one, that can be seen of so many cells."""
    marks = "?012345"[:most + 2]
    return ["".join(figures) for figures in itertools.product(marks, repeat=cells)]
