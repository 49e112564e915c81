"""Which deeds are needless, and which recipes are alike, whatever the negative."""

from maskedprints.basics import DENSITIES, check_recipe, check_size, light_of, mirrored, open_pair
from maskedprints.errors import TooMany

MOST_PARTED = 6


def open_times(width, height, recipe):
    """For each cell of the paper, its open ticks under the straight negative, and under the turned one."""
    check_size(width, height)
    check_recipe(recipe, width * height)
    return tuple([open_pair(width, recipe, cell) for cell in range(width * height)])


def needless(width, height, recipe):
    """The indexes of all deeds each of which alone could be left out of a recipe."""
    check_size(width, height)
    check_recipe(recipe, width * height)
    # Unlike light makes unlike prints for some negative and paper: recipes that differ at all do so through
    # densities 3 and 4, too, through which the light stays far below the greatest step.
    whole = light_ways(width, height, recipe)
    found = []
    for index in range(len(recipe)):
        if light_ways(width, height, recipe[:index] + recipe[index + 1:]) == whole:
            found.append(index)
    return tuple(found)


def alike(width, height, one, other):
    """Whether two recipes give all cells the same light with every negative."""
    check_size(width, height)
    check_recipe(one, width * height)
    check_recipe(other, width * height)
    return light_ways(width, height, one) == light_ways(width, height, other)


def parting(width, height, one, other):
    """The first densities with which a negative parts two recipes, None if they are alike."""
    are_alike = alike(width, height, one, other)
    cells = width * height
    if cells > MOST_PARTED:
        raise TooMany()
    if not are_alike:
        for densities in all_densities(cells):
            if are_parted(width, densities, one, other):
                return densities
    return None


def light_ways(width, height, recipe):
    """What of a recipe tells the light of each cell, whatever the negative."""
    ways = []
    for cell in range(width * height):
        straight, over = open_pair(width, recipe, cell)
        # In a middle column a flip leaves the same density over a cell, so that only the sum tells there.
        if mirrored(cell, width) == cell:
            straight, over = straight + over, 0
        ways.append((straight, over))
    return ways


def all_densities(cells):
    """The densities of all negatives of so many cells, in tuple order."""
    texts = [""]
    for cell in range(cells):
        texts = [text + figure for text in texts for figure in DENSITIES]
    return texts


def are_parted(width, densities, one, other):
    """Whether two recipes give a cell unlike light through these densities."""
    for cell in range(len(densities)):
        if light_of(width, densities, one, cell) != light_of(width, densities, other, cell):
            return True
    return False
