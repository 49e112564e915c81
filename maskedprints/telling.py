"""What prints tell of a negative that nobody has looked at, of papers, and of masks."""

from maskedprints.basics import MOST_STEPS, MOST_TICKS, UNITS, UNSEEN, are_steps, check_number, check_papers
from maskedprints.basics import check_recipe, check_seen, check_size, check_steps, light_by, mirrored, open_pair
from maskedprints.basics import product, tone_of
from maskedprints.negatives import lights

LONGEST_TELLING = 999
COVERED = "c"
UNCOVERED = "o"


def told(width, height, steps, recipe, tones):
    """The sure densities of a negative by what was seen of its print, None if there is no such negative."""
    ways = all_ways(width, height, steps, recipe, tones)
    if [] in ways:
        return None
    return "".join([sure_figure([density for density, other in pairs]) for pairs in ways])


def negative_count(width, height, steps, recipe, tones):
    """How many negatives there can be by what was seen of a print."""
    ways = all_ways(width, height, steps, recipe, tones)
    # A cell and its mirror image have their ways in common, so that these count once.
    return product([len(pairs) for cell, pairs in enumerate(ways) if cell <= mirrored(cell, width)])


def first_negative(width, height, steps, recipe, tones):
    """The first densities that there can be by what was seen of a print, None if there are none."""
    ways = all_ways(width, height, steps, recipe, tones)
    if [] in ways:
        return None
    figures = [""] * len(ways)
    for cell, pairs in enumerate(ways):
        turned = mirrored(cell, width)
        if cell <= turned:
            density, other = pairs[0]
            figures[cell] = str(density)
            figures[turned] = str(other)
    return "".join(figures)


def telling_time(steps, low, high):
    """The least time of one exposure by which densities from low to high give different tones, None if none does."""
    check_steps(steps)
    check_number(low, 0, len(UNITS) - 1)
    check_number(high, low, len(UNITS) - 1)
    through = UNITS[low:high + 1]
    for time in range(1, LONGEST_TELLING + 1):
        if len({tone_of(time * units, steps) for units in through}) == len(through):
            return time
    return None


def papers_agree(papers, negative, recipe, tones):
    """The indexes of all papers on which a print can show tones that were seen."""
    # There is no limit of how many papers these are.
    check_papers(papers, len(papers))
    check_recipe(recipe, len(negative))
    check_seen(tones, MOST_STEPS, len(negative))
    got = lights(negative, recipe)
    return tuple([index for index, steps in enumerate(papers) if all_show(steps, got, tones)])


def first_unlike(one, other):
    """The least light by which two papers show unlike tones, None if there is none."""
    check_steps(one)
    check_steps(other)
    for light in sorted(set(one) | set(other)):
        if tone_of(light, one) != tone_of(light, other):
            return light
    return None


def first_paper(negative, recipe, tones, count):
    """The first steps, so many, of a paper on which a print shows tones that were seen, None if there are none."""
    check_recipe(recipe, len(negative))
    check_number(count, 1, MOST_STEPS)
    check_seen(tones, count, len(negative))
    got = lights(negative, recipe)
    steps = lowest_steps(got, tones, count)
    return steps if are_steps(steps) and all_show(steps, got, tones) else None


def masks_told(negative, steps, time, tones):
    """Which cells were surely covered, and which open, at one exposure, None if there is no such mask."""
    ways = mask_ways(negative, steps, time, tones)
    if "" in ways:
        return None
    return "".join([way if len(way) == 1 else UNSEEN for way in ways])


def mask_count(negative, steps, time, tones):
    """How many masks there can be at one exposure by what was seen of its print."""
    return product([len(way) for way in mask_ways(negative, steps, time, tones)])


def shows(tone, light, steps):
    """Whether a cell with so much light has a tone that was seen, or was not seen at all."""
    return tone == UNSEEN or int(tone) == tone_of(light, steps)


def all_show(steps, got, tones):
    """Whether all cells have the tones that were seen, by the light that they got."""
    return all([shows(tone, light, steps) for tone, light in zip(tones, got)])


def all_ways(width, height, steps, recipe, tones):
    """For each cell, all pairs of densities that it and its mirror image can have by what was seen of a print."""
    check_size(width, height)
    check_steps(steps)
    check_recipe(recipe, width * height)
    check_seen(tones, len(steps), width * height)
    return [ways_of(width, steps, recipe, tones, cell) for cell in range(width * height)]


def ways_of(width, steps, recipe, tones, cell):
    """All pairs of densities, in order, that a cell and its mirror image can have by what was seen of both."""
    turned = mirrored(cell, width)
    ticks, turned_ticks = open_pair(width, recipe, cell), open_pair(width, recipe, turned)
    found = []
    for density, other in density_pairs(turned == cell):
        light, turned_light = light_by(ticks, density, other), light_by(turned_ticks, other, density)
        if shows(tones[cell], light, steps) and shows(tones[turned], turned_light, steps):
            found.append((density, other))
    return found


def density_pairs(is_middle):
    """All pairs of densities, in order, that a cell and its mirror image can have."""
    figures = list(range(len(UNITS)))
    # A cell in a middle column is its own mirror image, and has but one density.
    return [(density, other) for density in figures for other in figures if density == other or not is_middle]


def sure_figure(numbers):
    """The figure of all of these numbers if they are the same, else that of what is not known."""
    found = sorted(set(numbers))
    return str(found[0]) if len(found) == 1 else UNSEEN


def lowest_steps(got, tones, count):
    """So many ascending steps, each as low as it can be so that cells do not have more than the tones seen."""
    steps = []
    lowest = 1
    for tone in range(count):
        above = [light + 1 for light, seen in zip(got, tones) if seen == str(tone)]
        lowest = max([lowest] + above)
        steps.append(lowest)
        lowest += 1
    return tuple(steps)


def mask_ways(negative, steps, time, tones):
    """For each cell a text of the ways, covered and open, in which it can have lain under a mask."""
    check_steps(steps)
    check_number(time, 1, MOST_TICKS)
    check_seen(tones, len(steps), len(negative))
    return ways_under_mask(negative, steps, time, tones)


def ways_under_mask(negative, steps, time, tones):
    """The texts of `mask_ways` for arguments that were checked."""
    ways = []
    for figure, tone in zip(negative.densities, tones):
        covered = COVERED if shows(tone, 0, steps) else ""
        uncovered = UNCOVERED if shows(tone, time * UNITS[int(figure)], steps) else ""
        ways.append(covered + uncovered)
    return ways
