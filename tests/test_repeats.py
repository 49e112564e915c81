"""Points 20 and 21 of the document: recipes that are done again and again."""

import itertools
import unittest

from maskedprints.errors import InvalidNumber, InvalidRecipe, InvalidSteps, UnknownCell
from maskedprints.negatives import Negative, lights
from maskedprints.repeats import dark_order, light_after, same_print, times_until
from tests import model
from tests.checking import Checking

PAIR = Negative(2, 1, "01")
SHORT = Negative(3, 1, "012")
STEPS = (10, 40)
FLIP = ("flip",)
ONCE = ("expose", 1, ())
BAD = ("draw", 0, 1)
MOST = 10 ** 15
RECIPES = [(), (FLIP,), (ONCE,), (ONCE, FLIP), (FLIP, ONCE), (FLIP, ONCE, FLIP), (("draw", 5, 2), FLIP, ONCE),
           (("expose", 2, (0,)), FLIP, ("expose", 1, (1, 2)), FLIP, FLIP), (("expose", 3, (0, 1)),)]


def slow_lights(negative, recipe, count):
    """The light of all cells behind so many times, by one long row of deeds."""
    return model.light(negative.width, negative.densities, recipe * count)


class ExampleTest(Checking):

    def test_the_first_example(self):
        recipe = (("expose", 1, ()), ("flip",))
        self.assertEqual(light_after(PAIR, recipe, 0, 3), 40)
        self.assertEqual(light_after(PAIR, recipe, 0, 10 ** 15), 12000000000000000)
        self.assertEqual(times_until(PAIR, (10, 30), recipe, 0, 2), 3)
        self.assertEqual(same_print(PAIR, (10, 20), recipe, 5), 2)
        self.assertEqual(dark_order(PAIR, (10, 20), recipe), (0, 1))

    def test_the_second_example(self):
        with self.assertRaises(InvalidRecipe) as caught:
            light_after(PAIR, (("flip", 1),), 0, 1)
        self.assertEqual(caught.exception.index, 0)


class LightAfterTest(Checking):

    def test_the_counts_0_and_1(self):
        for recipe in RECIPES:
            for cell in range(3):
                self.assertEqual(light_after(SHORT, recipe, cell, 0), 0)
                self.assertEqual(light_after(SHORT, recipe, cell, 1), lights(SHORT, recipe)[cell])

    def test_the_greatest_count(self):
        self.assertEqual(light_after(PAIR, (ONCE,), 1, MOST), 8 * MOST)
        self.assertEqual(light_after(PAIR, (("expose", 99, ()),) * 8, 0, MOST), 99 * 8 * 16 * MOST)
        self.assertEqual(light_after(PAIR, (ONCE, FLIP), 1, MOST - 1), 8 * (MOST // 2) + 16 * (MOST // 2 - 1))
        self.assertEqual(light_after(PAIR, (), 0, MOST), 0)

    def test_an_even_number_of_flips(self):
        self.assertEqual(light_after(PAIR, (FLIP, ONCE, FLIP), 0, 5), 40)
        self.assertEqual(light_after(PAIR, (FLIP, FLIP, ONCE), 0, 5), 80)

    def test_an_odd_number_of_flips(self):
        self.assertEqual(light_after(PAIR, (ONCE, FLIP, FLIP, FLIP), 0, 5), 16 + 8 + 16 + 8 + 16)
        self.assertEqual(light_after(PAIR, (FLIP, ONCE), 0, 4), 8 + 16 + 8 + 16)
        self.assertEqual(light_after(PAIR, (FLIP, ONCE), 0, 5), 8 + 16 + 8 + 16 + 8)

    def test_the_middle_column(self):
        self.assertEqual(light_after(SHORT, (ONCE, FLIP), 1, 7), 56)

    def test_recipes_of_no_deeds_and_of_eight(self):
        self.assertEqual(light_after(SHORT, (), 0, 9), 0)
        self.assertEqual(light_after(SHORT, (FLIP,) * 7 + (ONCE,), 0, 2), 4 + 16)
        self.assertEqual(light_after(SHORT, (FLIP,) * 8, 0, 2), 0)

    def test_against_the_slow_model(self):
        for negative in (SHORT, Negative(2, 2, "0341"), Negative(4, 1, "0123")):
            for recipe in RECIPES:
                if any(deed[0] == "expose" and deed[2] and deed[2][-1] >= len(negative) for deed in recipe):
                    continue
                for count in range(6):
                    found = [light_after(negative, recipe, cell, count) for cell in range(len(negative))]
                    self.assertEqual(tuple(found), slow_lights(negative, recipe, count), (recipe, count))

    def test_wrong_arguments(self):
        self.assert_index(1, light_after, PAIR, (ONCE, BAD), 0, 1)
        self.assert_index(8, light_after, PAIR, (ONCE,) * 9, 0, 1)
        self.assert_index(0, light_after, PAIR, (("expose", 1, (2,)),), 0, 1)
        self.assert_errors(UnknownCell, light_after, [(PAIR, (), cell, 1) for cell in (-1, 2, True, False)])
        self.assert_errors(InvalidNumber, light_after, [(PAIR, (), 0, count) for count in (-1, MOST + 1, True, False)])

    def test_the_order_of_the_errors(self):
        self.assert_errors(InvalidRecipe, light_after, [(PAIR, (BAD,), 2, -1), (PAIR, (BAD,), 0, True)])
        self.assert_errors(UnknownCell, light_after, [(PAIR, (), 2, -1), (PAIR, (), True, MOST + 1)])


class TimesUntilTest(Checking):

    def test_the_tone_0(self):
        for recipe in RECIPES:
            self.assertEqual(times_until(SHORT, STEPS, recipe, 0, 0), 0)

    def test_a_cell_that_never_has_a_tone(self):
        self.assertIsNone(times_until(PAIR, (1,), (), 0, 1))
        self.assertIsNone(times_until(PAIR, (1,), (FLIP, FLIP, FLIP), 0, 1))
        self.assertIsNone(times_until(PAIR, (1,), (("expose", 99, (0,)),), 0, 1))
        self.assertIsNone(times_until(PAIR, (1,), (("expose", 99, (0,)), FLIP), 0, 1))
        self.assertIsNone(times_until(PAIR, (1,), (("draw", 5, 5),), 1, 1))
        self.assertEqual(times_until(PAIR, (1,), (("draw", 5, 4),), 1, 1), 1)

    def test_very_many_times(self):
        dark = Negative(2, 1, "44")
        self.assertEqual(times_until(dark, (9999,), (ONCE,), 0, 1), 9999)
        self.assertEqual(times_until(dark, (1, 9999), (ONCE, FLIP), 1, 2), 9999)
        self.assertEqual(times_until(Negative(2, 1, "40"), (9999,), (ONCE, FLIP), 0, 1), 1178)

    def test_just_at_a_step(self):
        self.assertEqual(times_until(PAIR, (16,), (ONCE,), 0, 1), 1)
        self.assertEqual(times_until(PAIR, (17,), (ONCE,), 0, 1), 2)
        self.assertEqual(times_until(PAIR, (24,), (ONCE, FLIP), 0, 1), 2)
        self.assertEqual(times_until(PAIR, (25,), (ONCE, FLIP), 0, 1), 3)
        self.assertEqual(times_until(PAIR, (40,), (ONCE, FLIP), 0, 1), 3)
        self.assertEqual(times_until(PAIR, (41,), (ONCE, FLIP), 0, 1), 4)

    def test_at_least_a_tone(self):
        self.assertEqual(times_until(PAIR, (1, 2, 3, 4, 5), (ONCE,), 0, 1), 1)
        self.assertEqual(times_until(PAIR, (1, 2, 3, 4, 5), (ONCE,), 0, 5), 1)

    def test_against_the_slow_model(self):
        for negative, recipe in itertools.product([SHORT, Negative(3, 1, "430"), Negative(3, 1, "340")], RECIPES):
            made = [slow_lights(negative, recipe, count) for count in range(60)]
            for steps in [(1,), (10, 40), (3, 25, 33), (16, 17, 24, 25, 48)]:
                for cell, tone in itertools.product(range(3), range(len(steps) + 1)):
                    fitting = [count for count in range(60) if int(model.tones(steps, [made[count][cell]])) >= tone]
                    found = times_until(negative, steps, recipe, cell, tone)
                    self.assertEqual(found, fitting[0] if fitting else None, (recipe, steps, cell, tone))

    def test_wrong_arguments(self):
        self.assert_steps(lambda steps: times_until(PAIR, steps, (), 0, 0))
        self.assert_index(1, times_until, PAIR, STEPS, (ONCE, BAD), 0, 0)
        self.assert_index(8, times_until, PAIR, STEPS, (ONCE,) * 9, 0, 0)
        self.assert_errors(UnknownCell, times_until, [(PAIR, STEPS, (), cell, 0) for cell in (-1, 2, True, False)])
        self.assert_errors(InvalidNumber, times_until, [(PAIR, STEPS, (), 0, tone) for tone in (-1, 3, 5, True, False)])
        self.assert_errors(InvalidNumber, times_until, [(PAIR, (1, 2, 3, 4, 5), (), 0, 6), (PAIR, (1,), (), 0, 2)])

    def test_the_order_of_the_errors(self):
        self.assert_errors(InvalidSteps, times_until, [(PAIR, (), (BAD,), 2, -1), (PAIR, (2, 1), (), 9, 0)])
        self.assert_errors(InvalidRecipe, times_until, [(PAIR, STEPS, (BAD,), 2, -1), (PAIR, STEPS, (BAD,), 0, 3)])
        self.assert_errors(UnknownCell, times_until, [(PAIR, STEPS, (), 2, -1), (PAIR, STEPS, (), True, 3)])


class SamePrintTest(Checking):

    def test_prints_that_never_change(self):
        for most in (1, 50):
            self.assertEqual(same_print(PAIR, STEPS, (), most), 0)
            self.assertEqual(same_print(PAIR, (9999,), (ONCE, FLIP), most), 0)
            self.assertEqual(same_print(PAIR, STEPS, (FLIP,), most), 0)

    def test_prints_that_change_up_to_the_last_time(self):
        self.assertEqual(same_print(PAIR, (16,), (ONCE,), 1), 1)
        self.assertEqual(same_print(PAIR, (16,), (ONCE,), 2), 2)
        self.assertEqual(same_print(Negative(1, 1, "4"), (50,), (ONCE,), 50), 50)
        self.assertEqual(same_print(Negative(1, 1, "4"), (49,), (ONCE,), 50), 49)
        self.assertEqual(same_print(Negative(1, 1, "4"), (51,), (ONCE,), 50), 0)

    def test_prints_that_change_once(self):
        self.assertEqual(same_print(PAIR, (10, 20), (ONCE, FLIP), 1), 1)
        self.assertEqual(same_print(PAIR, (10, 20), (ONCE, FLIP), 50), 2)
        self.assertEqual(same_print(PAIR, (1,), (ONCE,), 50), 1)

    def test_against_the_slow_model(self):
        for negative, recipe in itertools.product([SHORT, Negative(3, 1, "430")], RECIPES):
            made = [slow_lights(negative, recipe, count) for count in range(51)]
            for steps in [(1,), (10, 40), (40, 250, 330), (16, 17, 24, 25, 48)]:
                prints = [model.tones(steps, got) for got in made]
                for most in (1, 2, 3, 7, 50):
                    fitting = [count for count in range(most + 1) if len(set(prints[count:most + 1])) == 1]
                    self.assertEqual(same_print(negative, steps, recipe, most), fitting[0], (recipe, steps, most))

    def test_wrong_arguments(self):
        self.assert_steps(lambda steps: same_print(PAIR, steps, (), 1))
        self.assert_index(1, same_print, PAIR, STEPS, (ONCE, BAD), 1)
        self.assert_index(8, same_print, PAIR, STEPS, (ONCE,) * 9, 1)
        self.assert_errors(InvalidNumber, same_print, [(PAIR, STEPS, (), most) for most in (0, 51, -1, True, False)])

    def test_the_order_of_the_errors(self):
        self.assert_errors(InvalidSteps, same_print, [(PAIR, (), (BAD,), 0), (PAIR, (2, 1), (), 51)])
        self.assert_errors(InvalidRecipe, same_print, [(PAIR, STEPS, (BAD,), 0), (PAIR, STEPS, (BAD,), True)])


class DarkOrderTest(Checking):

    def test_cells_that_get_dark_together(self):
        self.assertEqual(dark_order(SHORT, (1,), (ONCE,)), (0, 1, 2))
        self.assertEqual(dark_order(Negative(2, 2, "2222"), STEPS, (ONCE,)), (0, 1, 2, 3))

    def test_cells_that_get_dark_at_once_and_late(self):
        self.assertEqual(dark_order(Negative(3, 1, "410"), (10,), (ONCE,)), (2, 1, 0))
        self.assertEqual(dark_order(Negative(3, 1, "402"), (9999,), (ONCE,)), (1, 2, 0))
        self.assertEqual(dark_order(Negative(3, 1, "102"), (16,), (ONCE,)), (1, 0, 2))
        self.assertEqual(dark_order(Negative(3, 1, "102"), (8, 16), (ONCE, ONCE)), (0, 1, 2))

    def test_cells_that_never_get_dark(self):
        self.assertEqual(dark_order(SHORT, (1,), (("expose", 1, (0,)),)), (1, 2))
        self.assertEqual(dark_order(SHORT, (1,), (("expose", 1, (0, 1, 2)),)), ())
        self.assertEqual(dark_order(SHORT, (9999,), (("draw", 9, 8),)), (0, 1))

    def test_recipes_of_no_deeds(self):
        self.assertEqual(dark_order(SHORT, (1,), ()), ())
        self.assertEqual(dark_order(SHORT, (1,), (FLIP,)), ())

    def test_the_greatest_tone_counts(self):
        self.assertEqual(dark_order(Negative(2, 1, "10"), (1,), (ONCE,)), (0, 1))
        self.assertEqual(dark_order(Negative(2, 1, "10"), (1, 16), (ONCE,)), (1, 0))

    def test_the_order_is_that_behind_whole_recipes(self):
        recipe = (("expose", 1, (0,)), ("expose", 1, (1,)))
        self.assertEqual(dark_order(Negative(2, 1, "00"), (16,), recipe), (0, 1))

    def test_against_the_slow_model(self):
        for negative, recipe in itertools.product([SHORT, Negative(3, 1, "430"), Negative(3, 1, "141")], RECIPES):
            made = [slow_lights(negative, recipe, count) for count in range(60)]
            for steps in [(1,), (10, 40), (16, 17, 24, 25, 50)]:
                times = [[count for count in range(60) if made[count][cell] >= steps[-1]] for cell in range(3)]
                order = sorted((counts[0], cell) for cell, counts in enumerate(times) if counts)
                found = dark_order(negative, steps, recipe)
                self.assertEqual(found, tuple(cell for count, cell in order), (recipe, steps))

    def test_wrong_arguments(self):
        self.assert_steps(lambda steps: dark_order(PAIR, steps, ()))
        self.assert_index(1, dark_order, PAIR, STEPS, (ONCE, BAD))
        self.assert_index(8, dark_order, PAIR, STEPS, (ONCE,) * 9)

    def test_the_order_of_the_errors(self):
        self.assert_errors(InvalidSteps, dark_order, [(PAIR, (), (BAD,)), (PAIR, (2, 1), (ONCE,) * 9)])


if __name__ == "__main__":
    unittest.main()
