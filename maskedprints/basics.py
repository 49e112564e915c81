"""What the files of the package share: the checks of arguments, and what deeds do to a cell."""

from maskedprints.errors import InvalidNumber, InvalidPapers, InvalidRecipe, InvalidSize, InvalidSteps, InvalidTones
from maskedprints.errors import UnknownCell

MOST_SIDE = 4
MOST_CELLS = 9
DENSITIES = "01234"
DENSEST = 4
UNITS = (16, 8, 4, 2, 1)
MOST_TICKS = 99
MOST_DEEDS = 8
FLIP = ("flip",)
MOST_STEPS = 5
GREATEST_STEP = 9999
TONES = "012345"
UNSEEN = "?"


def is_number(value, least, most):
    """Whether it is an integer in a range."""
    # Python takes a boolean for an integer, the package does not.
    return isinstance(value, int) and not isinstance(value, bool) and least <= value <= most


def ascends(values, least, most):
    """Whether these are integers in a range, each greater than the one ahead of it."""
    for value in values:
        if not is_number(value, least, most):
            return False
        least = value + 1
    return True


def wrong_side(width, height):
    """The name of the first side that no negative has, None if there is such a negative."""
    if not is_number(width, 1, MOST_SIDE):
        return "width"
    if not is_number(height, 1, MOST_SIDE) or width * height > MOST_CELLS:
        return "height"
    return None


def check_size(width, height):
    """Raise InvalidSize if no negative is so large."""
    if wrong_side(width, height) is not None:
        raise InvalidSize()


def are_steps(steps):
    """Whether a paper can have such steps."""
    return 1 <= len(steps) <= MOST_STEPS and ascends(steps, 1, GREATEST_STEP)


def check_steps(steps):
    """Raise InvalidSteps if no paper has such steps."""
    if not are_steps(steps):
        raise InvalidSteps()


def check_papers(papers, most):
    """Raise InvalidPapers if one of these, or of more than so many, can be no paper."""
    for index, steps in enumerate(papers):
        if index == most or not are_steps(steps):
            raise InvalidPapers(index)


def check_cell(cell, cells):
    """Raise UnknownCell if it is none of so many cells."""
    if not is_number(cell, 0, cells - 1):
        raise UnknownCell()


def check_number(value, least, most):
    """Raise InvalidNumber if it is no integer in a range."""
    if not is_number(value, least, most):
        raise InvalidNumber()


def check_figures(text, figures, cells):
    """Raise InvalidTones if it is no text of one of these figures for each of so many cells."""
    if not isinstance(text, str) or len(text) != cells or not all([figure in figures for figure in text]):
        raise InvalidTones()


def check_goal(goal, most, cells):
    """Raise InvalidTones if it is no text of the tones, from 0 to a greatest one, of so many cells."""
    check_figures(goal, TONES[:most + 1], cells)


def check_seen(tones, most, cells):
    """Raise InvalidTones if these are no tones, from 0 to a greatest one, that were seen of so many cells."""
    check_figures(tones, TONES[:most + 1] + UNSEEN, cells)


def is_mask(covered, cells):
    """Whether a mask over so many cells of a paper can cover these."""
    return isinstance(covered, tuple) and ascends(covered, 0, cells - 1)


def is_deed(deed, cells):
    """Whether it is a deed under a negative of so many cells."""
    if deed == FLIP:
        return True
    if len(deed) != 3 or not is_number(deed[1], 1, MOST_TICKS):
        return False
    if deed[0] == "expose":
        return is_mask(deed[2], cells)
    return deed[0] == "draw" and is_number(deed[2], 1, MOST_TICKS)


def check_recipe(recipe, cells):
    """Raise InvalidRecipe if it is no recipe under a negative of so many cells."""
    for index, deed in enumerate(recipe):
        if index == MOST_DEEDS or not is_deed(deed, cells):
            raise InvalidRecipe(index)


def mirrored(cell, width):
    """The cell in whose place a cell lies when the negative is turned over."""
    column = cell % width
    return cell - column + width - 1 - column


def ticks_of(deed, width, cell):
    """For how many ticks an exposure or a draw opens a cell of the paper."""
    if deed[0] == "expose":
        return 0 if cell in deed[2] else deed[1]
    return max(0, deed[1] - deed[2] * (cell % width))


def open_pair(width, recipe, cell):
    """For how many ticks a cell of the paper is open under the straight negative, and under the turned one."""
    straight = over = 0
    is_over = False
    for deed in recipe:
        if deed == FLIP:
            is_over = not is_over
        elif is_over:
            over += ticks_of(deed, width, cell)
        else:
            straight += ticks_of(deed, width, cell)
    return (straight, over)


def light_by(ticks, density, turned):
    """How many units of light such open times give through a density, and the one that lies there turned over."""
    straight, over = ticks
    return straight * UNITS[density] + over * UNITS[turned]


def light_of(width, densities, recipe, cell):
    """How many units of light a cell of the paper gets."""
    turned = mirrored(cell, width)
    return light_by(open_pair(width, recipe, cell), int(densities[cell]), int(densities[turned]))


def tone_of(light, steps):
    """Which tone a cell has by so much light."""
    return len([step for step in steps if step <= light])


def ticks_to(light, units):
    """The least number of ticks of so many units each that give at least so much light."""
    return (light + units - 1) // units


def product(numbers):
    """What all of these numbers make when they are multiplied."""
    result = 1
    for number in numbers:
        result *= number
    return result
