"""What becomes of a paper on which a recipe is done again and again."""

from maskedprints.basics import check_cell, check_number, check_recipe, check_steps, light_of, tone_of

MOST_TIMES = 10 ** 15
MOST_PRINTS = 50


def light_after(negative, recipe, cell, count):
    """The units of light that a cell has got when a recipe was done so many times."""
    check_recipe(recipe, len(negative))
    check_cell(cell, len(negative))
    check_number(count, 0, MOST_TIMES)
    return light_by_times(light_turns(negative, recipe, cell), count)


def times_until(negative, steps, recipe, cell, tone):
    """The least number of times behind which a cell has at least a tone, None if it never has."""
    check_steps(steps)
    check_recipe(recipe, len(negative))
    check_cell(cell, len(negative))
    check_number(tone, 0, len(steps))
    if tone == 0:
        return 0
    return times_to(light_turns(negative, recipe, cell), steps[tone - 1])


def same_print(negative, steps, recipe, most):
    """The least number of times from which on the print is the same up to a last number of times."""
    check_steps(steps)
    check_recipe(recipe, len(negative))
    check_number(most, 1, MOST_PRINTS)
    turns = all_turns(negative, recipe)
    last = tones_behind(turns, steps, most)
    count = most
    while count > 0 and tones_behind(turns, steps, count - 1) == last:
        count -= 1
    return count


def dark_order(negative, steps, recipe):
    """All cells that ever have the greatest tone, in the order in which they first have it behind a whole recipe."""
    check_steps(steps)
    check_recipe(recipe, len(negative))
    found = []
    for cell, turns in enumerate(all_turns(negative, recipe)):
        count = times_to(turns, steps[-1])
        if count is not None:
            found.append((count, cell))
    return tuple([cell for count, cell in sorted(found)])


def light_turns(negative, recipe, cell):
    """The light that a cell gets the first time, and the second time; all later ones take turns likewise."""
    first = light_of(negative.width, negative.densities, recipe, cell)
    # A recipe with an odd number of flips begins its second time under the turned negative.
    both = light_of(negative.width, negative.densities, recipe + recipe, cell)
    return (first, both - first)


def all_turns(negative, recipe):
    """The light of `light_turns` for each cell."""
    return [light_turns(negative, recipe, cell) for cell in range(len(negative))]


def light_by_times(turns, count):
    """The light of so many times, of which two each take turns."""
    first, second = turns
    return (count + 1) // 2 * first + count // 2 * second


def times_to(turns, light):
    """The least number of times that give at least so much light, 1 unit or more, None if none does."""
    first, second = turns
    if first + second == 0:
        return None
    pairs, rest = divmod(light - 1, first + second)
    return 2 * pairs + (1 if rest < first else 2)


def tones_behind(turns, steps, count):
    """The tones of all cells behind so many times."""
    return [tone_of(light_by_times(each, count), steps) for each in turns]
