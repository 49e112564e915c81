"""Test strips, papers that are as quick as others, and exposures that are not known."""

from maskedprints.basics import MOST_TICKS, check_number, check_papers, check_seen, check_size, check_steps, is_mask
from maskedprints.basics import product, tone_of
from maskedprints.errors import InvalidMask
from maskedprints.negatives import lights, printed
from maskedprints.telling import COVERED, all_show, ways_under_mask

LONGEST_STRIP = 24
MOST_PAPERS = 7


def strip_recipe(width, height, time):
    """The exposures of a test strip, one for each column."""
    check_size(width, height)
    check_number(time, 1, LONGEST_STRIP)
    return tuple([("expose", time, cells_ahead(width, height, column)) for column in range(width)])


def bands(negative, steps, time, tone):
    """The columns of a test strip all cells of which have just a tone, ascending."""
    check_steps(steps)
    check_number(time, 1, LONGEST_STRIP)
    check_number(tone, 0, len(steps))
    strip = printed(negative, steps, strip_recipe(negative.width, negative.height, time))
    band = str(tone) * negative.height
    return [column for column in range(negative.width) if strip[column::negative.width] == band]


def band_times(negative, steps, column, tone):
    """The times of all test strips in which a column has just a tone, ascending."""
    check_steps(steps)
    check_number(column, 0, negative.width - 1)
    check_number(tone, 0, len(steps))
    return [time for time in range(1, LONGEST_STRIP + 1) if column in bands(negative, steps, time, tone)]


def quick(one, other):
    """Whether a paper is as quick as another one."""
    check_steps(one)
    check_steps(other)
    return is_quick(one, other)


def quick_row(papers):
    """The longest tuple of indexes of papers each of which is as quick as the one behind it, the first of several."""
    longest = ()
    for rows in rows_by_length(papers):
        longest = rows[0]
    return longest


def quick_count(papers):
    """How many tuples of indexes there are of papers each of which is as quick as the one behind it."""
    return sum([len(rows) for rows in rows_by_length(papers)])


def exposure_times(negative, steps, covered, tones):
    """The times of all exposures with a mask by which a print shows tones that were seen, ascending."""
    check_steps(steps)
    if not is_mask(covered, len(negative)):
        raise InvalidMask()
    check_seen(tones, len(steps), len(negative))
    found = []
    for time in range(1, MOST_TICKS + 1):
        if all_show(steps, lights(negative, (("expose", time, covered),)), tones):
            found.append(time)
    return found


def exposure_count(negative, steps, tones):
    """How many exposures there are, of any time and mask, by which a print shows tones that were seen."""
    return sum([product([len(way) for way in ways]) for ways in ways_by_time(negative, steps, tones)])


def first_exposure(negative, steps, tones):
    """The first time and mask of an exposure by which a print shows tones that were seen, None if there is none."""
    for index, ways in enumerate(ways_by_time(negative, steps, tones)):
        if "" not in ways:
            return (index + 1, first_mask(ways))
    return None


def cells_ahead(width, height, column):
    """The cells, ascending, of all columns ahead of one."""
    return tuple([cell for cell in range(width * height) if cell % width < column])


def is_quick(one, other):
    """Whether no light gives a paper a lesser tone than another one."""
    # The tone of the other one grows at its steps only, so that no light between them has to be asked.
    return all([tone_of(light, one) >= tone_of(light, other) for light in other])


def rows_by_length(papers):
    """For each length from 1 on, as long as there are any, the tuples of `quick_count`, in tuple order."""
    check_papers(papers, MOST_PAPERS)
    indexes = list(range(len(papers)))
    slower = [[other for other in indexes if is_quick(papers[index], papers[other])] for index in indexes]
    found = []
    rows = [(index,) for index in indexes]
    while rows:
        found.append(rows)
        rows = [row + (index,) for row in rows for index in slower[row[-1]] if index not in row]
    return found


def ways_by_time(negative, steps, tones):
    """For each time of one exposure, from 1 on, the ways in which each cell can have lain under its mask."""
    check_steps(steps)
    check_seen(tones, len(steps), len(negative))
    return [ways_under_mask(negative, steps, time, tones) for time in range(1, MOST_TICKS + 1)]


def first_mask(ways):
    """The first mask in tuple order of all that cover each cell in one of its ways."""
    # One more cell ahead of the last one that must be covered makes an earlier mask, one behind it a later one.
    last = max([cell for cell, way in enumerate(ways) if way == COVERED], default=-1)
    return tuple([cell for cell, way in enumerate(ways) if COVERED in way and cell <= last])
