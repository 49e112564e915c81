"""What two negatives one behind the other do, and how long a lamp that fades must shine."""

from maskedprints.basics import DENSEST, UNITS, check_number, product, ticks_to
from maskedprints.errors import UnlikeSizes
from maskedprints.negatives import Negative

# For a density below 4 each part from 0 to it makes a pair; for 4, all 25 pairs but the ten whose sums are less.
PAIRS_FOR = (1, 2, 3, 4, 15)
LONGEST_LIFE = 10 ** 15
MOST_FADED = 10 ** 18
FULL_LIGHT = 16


def behind(one, other):
    """The negative that two negatives, one behind the other, are like."""
    check_sizes(one, other)
    sums = [min(DENSEST, mine + theirs) for mine, theirs in paired_densities(one, other)]
    return Negative(one.width, one.height, "".join([str(density) for density in sums]))


def least_behind(one, goal):
    """The first densities behind which a negative becomes another one, None if there are none."""
    check_sizes(one, goal)
    missing = [theirs - mine for mine, theirs in paired_densities(one, goal)]
    if min(missing) < 0:
        return None
    return "".join([str(density) for density in missing])


def pair_count(negative):
    """How many pairs of negatives, one ahead of the other, are like a negative."""
    return product([PAIRS_FOR[int(figure)] for figure in negative.densities])


def faded(life, ticks, density):
    """How many sixteenths of a unit of light a lamp that fades gives in its first ticks through a density."""
    check_fading(life, ticks, density)
    light = 0
    for share in range(FULL_LIGHT, 0, -1):
        shone = min(life, ticks)
        light += shone * share * UNITS[density]
        ticks -= shone
    return light


def ticks_until(life, light, density):
    """The least number of ticks in which a lamp that fades gives so many sixteenths, None if it never does."""
    check_fading(life, light, density)
    ticks = 0
    for share in range(FULL_LIGHT, 0, -1):
        each = share * UNITS[density]
        if light <= life * each:
            return ticks + ticks_to(light, each)
        light -= life * each
        ticks += life
    return None


def check_sizes(one, other):
    """Raise UnlikeSizes if two negatives are not as large."""
    if one.width != other.width or one.height != other.height:
        raise UnlikeSizes()


def check_fading(life, amount, density):
    """Raise InvalidNumber if a life, an amount of ticks or of light, or a density is out of its range."""
    check_number(life, 1, LONGEST_LIFE)
    check_number(amount, 0, MOST_FADED)
    check_number(density, 0, DENSEST)


def paired_densities(one, other):
    """The densities of the same cells of two negatives, as numbers."""
    return [(int(mine), int(theirs)) for mine, theirs in zip(one.densities, other.densities)]
