"""Points 8 to 10 of the document: times, fewest exposures, and draws."""

import itertools
import unittest

from maskedprints.errors import InvalidNumber, InvalidSteps, InvalidTones, UnknownCell
from maskedprints.fewest import draws_for, exposures, fewest_exposures, times_for
from maskedprints.negatives import Negative, printed
from tests import model
from tests.checking import Checking

SHORT = Negative(3, 1, "012")
STEPS = (10, 40)


def slow_times(steps, density, tone):
    """What `times_for` is to return, by looking at each time up to one that is beyond all steps."""
    units = model.UNITS[density]
    end = steps[-1] // units + 3
    times = [time for time in range(end) if model.tones(steps, [time * units]) == str(tone)]
    if not times:
        return None
    return (times[0], None if times[-1] == end - 1 else times[-1])


def slow_exposures(negative, steps, goal, most):
    """What `exposures` is to return, by trying each time and each cell's indexes in order."""
    for many in range(most + 1):
        subsets = sorted(subset for size in range(many + 1) for subset in itertools.combinations(range(many), size))
        for times in itertools.combinations_with_replacement(range(1, 21), many):
            chosen = []
            for density, tone in zip(negative.densities, goal):
                chosen.append([subset for subset in subsets if model.tones(
                    steps, [model.UNITS[density] * sum(times[index] for index in subset)]) == tone][:1])
            if all(chosen):
                return tuple(("expose", time, tuple(cell for cell in range(len(goal)) if index not in chosen[cell][0]))
                             for index, time in enumerate(times))
    return None


class ExampleTest(Checking):

    def test_the_first_example(self):
        self.assertEqual(times_for(SHORT, (10, 40), 0, 1), (1, 2))
        self.assertEqual(times_for(SHORT, (10, 40), 0, 2), (3, None))
        self.assertIsNone(times_for(SHORT, (10, 12), 0, 1))
        self.assertEqual(exposures(SHORT, (10, 40), "201", 3), (("expose", 3, (1,)),))
        self.assertEqual(fewest_exposures(SHORT, (10, 40), "201", 3), 1)
        self.assertEqual(exposures(SHORT, (10, 40), "000", 3), ())
        self.assertEqual(draws_for(SHORT, (10, 40), "210")[:3], [(3, 1), (4, 1), (4, 2)])

    def test_the_second_example(self):
        with self.assertRaises(InvalidTones):
            exposures(SHORT, (10, 40), "203", 3)


class TimesForTest(Checking):

    def test_the_tone_0_begins_with_none_at_all(self):
        self.assertEqual(times_for(SHORT, STEPS, 0, 0), (0, 0))
        self.assertEqual(times_for(SHORT, STEPS, 1, 0), (0, 1))
        self.assertEqual(times_for(SHORT, STEPS, 2, 0), (0, 2))
        self.assertEqual(times_for(SHORT, (1,), 0, 0), (0, 0))
        self.assertEqual(times_for(Negative(1, 1, "4"), (1,), 0, 0), (0, 0))
        self.assertEqual(times_for(SHORT, (16,), 0, 0), (0, 0))
        self.assertEqual(times_for(SHORT, (17,), 0, 0), (0, 1))

    def test_the_greatest_tone_has_no_end(self):
        self.assertEqual(times_for(SHORT, STEPS, 1, 2), (5, None))
        self.assertEqual(times_for(SHORT, STEPS, 2, 2), (10, None))
        self.assertEqual(times_for(SHORT, (1,), 0, 1), (1, None))
        self.assertEqual(times_for(SHORT, (1, 2, 3, 4, 5), 0, 5), (1, None))

    def test_tones_between_that_no_time_gives(self):
        self.assertIsNone(times_for(SHORT, (17, 32, 33), 0, 1))
        self.assertEqual(times_for(SHORT, (17, 32, 33), 0, 2), (2, 2))
        self.assertIsNone(times_for(SHORT, (1, 2, 3, 4, 5), 0, 4))
        self.assertEqual(times_for(SHORT, (10, 12), 2, 1), None)
        self.assertEqual(times_for(SHORT, (10, 13), 2, 1), (3, 3))

    def test_times_far_beyond_those_of_exposures(self):
        dense = Negative(1, 1, "4")
        self.assertEqual(times_for(dense, (9998, 9999), 0, 0), (0, 9997))
        self.assertEqual(times_for(dense, (9998, 9999), 0, 1), (9998, 9998))
        self.assertEqual(times_for(dense, (9998, 9999), 0, 2), (9999, None))
        self.assertEqual(times_for(Negative(1, 1, "0"), (9999,), 0, 1), (625, None))
        self.assertEqual(times_for(Negative(1, 1, "0"), (99 * 16, 100 * 16 + 1), 0, 1), (99, 100))

    def test_against_the_slow_model(self):
        papers = [(1,), (2,), (16, 17), (8, 16, 32), (1, 2, 3, 4, 5), (3, 15, 16, 47, 100), (7, 40, 41), (9, 999)]
        negative = Negative(3, 2, "304124")
        for steps in papers:
            for cell, tone in itertools.product(range(6), range(len(steps) + 1)):
                expected = slow_times(steps, negative.densities[cell], tone)
                self.assertEqual(times_for(negative, steps, cell, tone), expected, (steps, cell, tone))

    def test_wrong_arguments(self):
        self.assert_steps(lambda steps: times_for(SHORT, steps, 0, 0))
        self.assert_errors(UnknownCell, times_for, [(SHORT, STEPS, cell, 0) for cell in (-1, 3, 9, True, False)])
        self.assert_errors(InvalidNumber, times_for, [(SHORT, STEPS, 0, tone) for tone in (-1, 3, 5, 6, True, False)])
        self.assert_errors(InvalidNumber, times_for, [(SHORT, (10,), 0, 2), (SHORT, (1, 2, 3, 4, 5), 0, 6)])

    def test_the_order_of_the_errors(self):
        self.assert_errors(InvalidSteps, times_for, [(SHORT, (), 3, -1), (SHORT, (2, 1), 0, 3)])
        self.assert_errors(UnknownCell, times_for, [(SHORT, STEPS, 3, -1), (SHORT, STEPS, True, True)])


class ExposuresTest(Checking):

    def assert_recipe(self, recipe, negative, steps, goal, most):
        """Assert what `exposures` returns, that it prints the goal, and that `fewest_exposures` agrees with it."""
        self.assertEqual(exposures(negative, steps, goal, most), recipe, (negative.densities, steps, goal, most))
        many = None if recipe is None else len(recipe)
        self.assertEqual(fewest_exposures(negative, steps, goal, most), many)
        if recipe is not None:
            self.assertEqual(printed(negative, steps, recipe), goal)
            self.assertLessEqual(many, most)

    def test_a_goal_of_zeros_wants_none(self):
        for most in range(4):
            self.assert_recipe((), SHORT, STEPS, "000", most)
        self.assert_recipe((), Negative(3, 3, "0" * 9), (1,), "0" * 9, 3)

    def test_one_exposure(self):
        self.assert_recipe((("expose", 1, (1, 2)),), SHORT, STEPS, "100", 1)
        self.assert_recipe((("expose", 10, ()),), SHORT, STEPS, "222", 3)
        self.assert_recipe((("expose", 10, (0, 1)),), SHORT, STEPS, "002", 1)
        self.assert_recipe((("expose", 20, ()),), Negative(1, 1, "4"), (20,), "1", 1)

    def test_two_exposures(self):
        pair = Negative(2, 1, "00")
        self.assert_recipe((("expose", 1, ()), ("expose", 2, (0,))), pair, STEPS, "12", 3)
        self.assert_recipe((("expose", 1, ()), ("expose", 2, (1,))), pair, STEPS, "21", 2)
        self.assert_recipe((("expose", 1, ()), ("expose", 20, ())), Negative(1, 1, "4"), (21,), "1", 3)

    def test_three_exposures(self):
        self.assert_recipe((("expose", 1, ()), ("expose", 1, (0, 2)), ("expose", 3, (0, 1))),
                           Negative(4, 1, "4444"), (1, 2, 3, 4, 5), "1245", 3)
        recipe = (("expose", 1, ()), ("expose", 20, ()), ("expose", 20, ()))
        self.assert_recipe(recipe, Negative(1, 1, "4"), (41,), "1", 3)
        self.assert_recipe((("expose", 20, ()),) * 3, Negative(1, 1, "0"), (960,), "1", 3)

    def test_goals_that_no_three_make(self):
        self.assert_recipe(None, Negative(1, 1, "4"), (61,), "1", 3)
        self.assert_recipe(None, Negative(1, 1, "0"), (961,), "1", 3)
        self.assert_recipe(None, Negative(1, 1, "0"), (10, 12), "1", 3)
        self.assert_recipe(None, Negative(2, 1, "00"), (10, 12), "01", 3)
        # Only three exposures of 20 ticks make 60, and no sum of theirs is 1.
        self.assert_recipe(None, Negative(2, 1, "44"), (1, 2, 60), "13", 3)

    def test_equal_times(self):
        steps = (32, 33, 64, 65)
        self.assert_recipe((("expose", 2, ()), ("expose", 2, (0,))), Negative(2, 1, "00"), steps, "13", 3)
        self.assert_recipe((("expose", 2, ()), ("expose", 2, (1,))), Negative(2, 1, "00"), steps, "31", 2)

    def test_at_most_so_many(self):
        for most, recipe in [(0, None), (1, None), (2, (("expose", 1, ()), ("expose", 2, (0,))))]:
            self.assert_recipe(recipe, Negative(2, 1, "00"), STEPS, "12", most)
        for most in range(3):
            self.assert_recipe(None, Negative(4, 1, "4444"), (1, 2, 3, 4, 5), "1245", most)
        self.assert_recipe(None, SHORT, STEPS, "001", 0)

    def test_the_first_times(self):
        self.assert_recipe((("expose", 4, ()),), Negative(1, 1, "0"), (64, 100), "1", 3)
        # 1 and 20 come ahead of 2 and 19, and so on.
        self.assert_recipe((("expose", 1, (1,)), ("expose", 20, ())), Negative(2, 1, "44"), (2, 21), "21", 3)

    def test_the_first_indexes_of_each_cell(self):
        # The third cell has its 3 ticks at the indexes 0 and 1, ahead of the index 2 alone.
        self.assert_recipe((("expose", 1, (1,)), ("expose", 2, (0,)), ("expose", 3, (0, 1, 2))),
                           Negative(4, 1, "4444"), (1, 2, 3, 4, 6), "1235", 3)
        # The first cell has its 2 ticks at the first one of two equal exposures.
        self.assert_recipe((("expose", 2, ()), ("expose", 2, (0,))), Negative(2, 1, "44"), (2, 3, 4), "13", 3)
        # The last cell would have enough at the index 2 alone, but all indexes come ahead of it.
        self.assert_recipe((("expose", 1, ()), ("expose", 1, (0,)), ("expose", 6, (0, 1))),
                           Negative(4, 1, "4443"), (1, 2, 3, 8, 9), "1245", 3)

    def test_cells_that_need_no_light_are_covered(self):
        # The densest cell would stay as it is in the light, too.
        self.assert_recipe((("expose", 1, (1,)),), Negative(2, 1, "04"), (16,), "10", 3)

    def test_against_the_slow_model(self):
        cases = [("0", (16, 300, 620, 900, 959)), ("4", (1, 20, 30, 45, 60)), ("2", (3, 5, 100, 170)),
                 ("02", (20, 50, 100)), ("44", (3, 5, 9)), ("31", (7, 30, 60)), ("014", (10, 18, 40))]
        for densities, steps in cases:
            negative = Negative(len(densities), 1, densities)
            for figures in itertools.product("012345"[:len(steps) + 1], repeat=len(densities)):
                goal = "".join(figures)
                self.assert_recipe(slow_exposures(negative, steps, goal, 3), negative, steps, goal, 3)

    def test_no_recipe_of_fewer_exposures_prints_it(self):
        pair, steps = Negative(2, 1, "12"), (20, 40, 70)
        masks = [(), (0,), (1,), (0, 1)]
        deeds = [("expose", time, covered) for time in range(1, 21) for covered in masks]
        ones = {printed(pair, steps, (deed,)) for deed in deeds}
        twos = {printed(pair, steps, recipe) for recipe in itertools.product(deeds, repeat=2)}
        for goal in ["".join(figures) for figures in itertools.product("0123", repeat=2)]:
            expected = 0 if goal == "00" else 1 if goal in ones else 2 if goal in twos else 3
            self.assertEqual(fewest_exposures(pair, steps, goal, 3), expected, goal)

    def test_the_largest_inputs(self):
        large = Negative(3, 3, "012340123")
        self.assertIsNone(exposures(large, (16, 48, 100, 300, 959), "012345543", 3))
        self.assert_recipe((("expose", 20, ()),) * 3, Negative(3, 3, "0" * 9), (960, 961), "1" * 9, 3)

    def test_wrong_arguments(self):
        for call in (exposures, fewest_exposures):
            self.assert_steps(lambda steps: call(SHORT, steps, "000", 3))
            self.assert_tones(lambda goal: call(SHORT, STEPS, goal, 3), "203", "301", "?01", "20?", "???", "012340123")
            wrong = [(SHORT, STEPS, "201", most) for most in (-1, 4, True, False)]
            self.assert_errors(InvalidNumber, call, wrong + [(SHORT, STEPS, "000", True), (SHORT, STEPS, "000", 4)])
            self.assert_errors(InvalidNumber, call, [(Negative(1, 1, "0"), (10, 12), "1", 4)])

    def test_figures_up_to_the_number_of_steps(self):
        self.assertEqual(fewest_exposures(SHORT, (1, 2, 3, 4, 5), "555", 1), 1)
        self.assert_errors(InvalidTones, exposures, [(SHORT, (1, 2, 3, 4, 5), "556", 3), (SHORT, (1,), "211", 3)])

    def test_the_order_of_the_errors(self):
        for call in (exposures, fewest_exposures):
            self.assert_errors(InvalidSteps, call, [(SHORT, (), "203", 4), (SHORT, (2, 1), "000", 4)])
            self.assert_errors(InvalidTones, call, [(SHORT, STEPS, "203", 4), (SHORT, STEPS, "?", True)])

    def test_repeated_calls_agree(self):
        self.assertEqual(exposures(SHORT, STEPS, "120", 3), exposures(SHORT, STEPS, "120", 3))


class DrawsForTest(Checking):

    def test_all_pairs(self):
        pairs = list(itertools.product(range(1, 21), repeat=2))
        self.assertEqual(draws_for(SHORT, (9999,), "000"), pairs)
        self.assertEqual(draws_for(Negative(1, 3, "000"), (16,), "111"), pairs)

    def test_some(self):
        pairs = [pair for time in range(3, 21) for pair in [(time, time - 2), (time, time - 1)]]
        self.assertEqual(draws_for(Negative(2, 1, "00"), (16, 48), "21"), pairs)
        self.assertEqual(draws_for(Negative(2, 1, "44"), (20,), "10"), [(20, pace) for pace in range(1, 21)])
        self.assertEqual(draws_for(Negative(2, 1, "44"), (19,), "11"), [(20, 1)])

    def test_none(self):
        self.assertEqual(draws_for(SHORT, (10, 12), "100"), [])
        self.assertEqual(draws_for(Negative(2, 1, "00"), (16,), "01"), [])
        self.assertEqual(draws_for(Negative(1, 1, "4"), (21,), "1"), [])

    def test_one_column_has_no_pace(self):
        found = draws_for(Negative(1, 2, "04"), (10, 20), "21")
        self.assertEqual(found, [(time, pace) for time in range(10, 20) for pace in range(1, 21)])

    def test_against_the_slow_model(self):
        steps = (9, 33, 70)
        for width, height, densities in [(1, 1, "3"), (2, 1, "10"), (3, 1, "401"), (2, 2, "1001"), (1, 3, "012")]:
            prints = {}
            for time, pace in itertools.product(range(1, 21), repeat=2):
                got = model.light(width, densities, (("draw", time, pace),))
                prints.setdefault(model.tones(steps, got), []).append((time, pace))
            for figures in itertools.product("0123", repeat=width * height):
                goal = "".join(figures)
                self.assertEqual(draws_for(Negative(width, height, densities), steps, goal), prints.get(goal, []), goal)

    def test_the_list_is_new(self):
        found = draws_for(SHORT, STEPS, "210")
        found.clear()
        self.assertEqual(draws_for(SHORT, STEPS, "210")[0], (3, 1))

    def test_wrong_arguments(self):
        self.assert_steps(lambda steps: draws_for(SHORT, steps, "000"))
        self.assert_tones(lambda goal: draws_for(SHORT, STEPS, goal), "203", "301", "?01", "20?", "???", "012340123")

    def test_the_order_of_the_errors(self):
        self.assert_errors(InvalidSteps, draws_for, [(SHORT, (), "203"), (SHORT, (2, 1), "")])


if __name__ == "__main__":
    unittest.main()
