"""By how few exposures a print is made, and by which draws."""

from maskedprints.basics import UNITS, check_cell, check_goal, check_number, check_steps, ticks_to
from maskedprints.negatives import printed

MOST_TIME = 20
MOST_PACE = 20
MOST_EXPOSURES = 3


def times_for(negative, steps, cell, tone):
    """The least and the greatest time of one exposure by which a cell gets just a tone, None if there is none."""
    check_steps(steps)
    check_cell(cell, len(negative))
    check_number(tone, 0, len(steps))
    return ticks_for(steps, int(negative.densities[cell]), tone)


def exposures(negative, steps, goal, most):
    """The first recipe of the fewest exposures, at most so many, that prints a goal, None if there is none."""
    check_steps(steps)
    check_goal(goal, len(steps), len(negative))
    check_number(most, 0, MOST_EXPOSURES)
    wanted = [ticks_for(steps, int(figure), int(tone)) for figure, tone in zip(negative.densities, goal)]
    if None in wanted:
        return None
    for many in range(most + 1):
        for times in times_in_order(many):
            chosen = chosen_indexes(times, wanted)
            if chosen is not None:
                return exposed(times, chosen)
    return None


def fewest_exposures(negative, steps, goal, most):
    """How many exposures there are in the recipe of `exposures`, None if there is none."""
    recipe = exposures(negative, steps, goal, most)
    return None if recipe is None else len(recipe)


def draws_for(negative, steps, goal):
    """All pairs of a time and a pace, ascending, by which one draw prints a goal."""
    check_steps(steps)
    check_goal(goal, len(steps), len(negative))
    found = []
    for time in range(1, MOST_TIME + 1):
        for pace in range(1, MOST_PACE + 1):
            if printed(negative, steps, (("draw", time, pace),)) == goal:
                found.append((time, pace))
    return found


def ticks_for(steps, density, tone):
    """The least and the most open ticks that give just a tone through a density, None if there are none."""
    units = UNITS[density]
    least = ticks_to(steps[tone - 1], units) if tone > 0 else 0
    if tone == len(steps):
        return (least, None)
    most = ticks_to(steps[tone], units) - 1
    return (least, most) if least <= most else None


def times_in_order(many):
    """All ascending tuples, equal ones allowed, of so many times, in tuple order."""
    found = [()]
    for place in range(many):
        found = [times + (time,) for times in found for time in range(times[-1] if place else 1, MOST_TIME + 1)]
    return found


def indexes_in_order(many):
    """All ascending tuples of indexes below a number, in tuple order."""
    found = [()]
    for index in reversed(range(many)):
        # Those that begin with this index stand behind the empty one and ahead of all others.
        found = [()] + [(index,) + indexes for indexes in found] + found[1:]
    return found


def chosen_indexes(times, wanted):
    """For each cell the first indexes of exposures that give it the ticks it wants, None if a cell gets none."""
    ways = [(indexes, sum([times[index] for index in indexes])) for indexes in indexes_in_order(len(times))]
    chosen = []
    for least, most in wanted:
        fitting = [indexes for indexes, ticks in ways if ticks >= least and (most is None or ticks <= most)]
        if not fitting:
            return None
        chosen.append(fitting[0])
    return chosen


def exposed(times, chosen):
    """The recipe of exposures of these times at which each cell is open at the indexes chosen for it."""
    recipe = []
    for index, time in enumerate(times):
        covered = [cell for cell, indexes in enumerate(chosen) if index not in indexes]
        recipe.append(("expose", time, tuple(covered)))
    return tuple(recipe)
