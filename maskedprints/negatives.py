"""Negatives, and the light and the prints that recipes make of them."""

from maskedprints.basics import DENSITIES, MOST_STEPS, check_cell, check_number, check_recipe, check_steps
from maskedprints.basics import light_of, tone_of, wrong_side
from maskedprints.errors import InvalidNegative


class Negative:
    """Rows of cells, each of which has a density from 0 to 4."""

    def __init__(self, width, height, densities):
        part = wrong_part(width, height, densities)
        if part is not None:
            raise InvalidNegative(part)
        self.columns = width
        self.lines = height
        self.figures = densities

    @property
    def width(self):
        """How many cells a row has."""
        return self.columns

    @property
    def height(self):
        """How many rows there are."""
        return self.lines

    @property
    def densities(self):
        """The text of the densities of all cells, row by row."""
        return self.figures

    def __len__(self):
        return len(self.figures)

    def __eq__(self, other):
        return (isinstance(other, Negative) and self.columns == other.columns
                and self.lines == other.lines and self.figures == other.figures)


def wrong_part(width, height, densities):
    """The name of the first parameter that no negative has, None if there is such a negative."""
    side = wrong_side(width, height)
    if side is not None:
        return side
    if len(densities) != width * height or not all([figure in DENSITIES for figure in densities]):
        return "densities"
    return None


def lights(negative, recipe):
    """The tuple of the units of light that all cells of the paper get."""
    check_recipe(recipe, len(negative))
    return tuple([light_of(negative.width, negative.densities, recipe, cell) for cell in range(len(negative))])


def printed(negative, steps, recipe):
    """The text of the tones of all cells of the paper."""
    check_steps(steps)
    return "".join([str(tone_of(light, steps)) for light in lights(negative, recipe)])


def growing(negative, steps, recipe):
    """Yield what the print would be behind each deed."""
    check_steps(steps)
    check_recipe(recipe, len(negative))
    for many in range(1, len(recipe) + 1):
        yield printed(negative, steps, recipe[:many])


def first_tone(negative, steps, recipe, cell, tone):
    """The least number of deeds behind which a cell has at least a tone, None if it never has."""
    check_steps(steps)
    check_recipe(recipe, len(negative))
    check_cell(cell, len(negative))
    check_number(tone, 0, MOST_STEPS)
    for many in range(len(recipe) + 1):
        light = light_of(negative.width, negative.densities, recipe[:many], cell)
        if tone_of(light, steps) >= tone:
            return many
    return None
