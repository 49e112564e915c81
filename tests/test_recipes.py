"""Points 6 and 7 of the document: needless deeds, and recipes that are alike."""

import itertools
import unittest

from maskedprints.errors import TooMany
from maskedprints.negatives import Negative, lights
from maskedprints.recipes import alike, needless, open_times, parting
from tests import model
from tests.checking import Checking

FLIP = ("flip",)
ONCE = ("expose", 1, ())
BAD = ("draw", 0, 1)


def deeds_for(cells):
    """Some deeds for a negative of so many cells."""
    return [FLIP, ONCE, ("expose", 2, (cells - 1,)), ("expose", 4, tuple(range(cells))), ("draw", 2, 1)]


class ExampleTest(Checking):

    def test_the_first_example(self):
        plain, turned = (("expose", 2, ()),), (("flip",), ("expose", 2, ()))
        recipe = (("draw", 5, 2), ("flip",), ("expose", 2, (0,)))
        self.assertEqual(open_times(3, 1, recipe), ((5, 0), (3, 2), (1, 2)))
        self.assertEqual(needless(3, 1, (("flip",), ("flip",), ("expose", 1, ()), ("flip",))), (3,))
        self.assertIs(alike(1, 2, plain, turned), True)
        self.assertIs(alike(2, 1, plain, turned), False)
        self.assertEqual(parting(2, 1, plain, turned), "01")

    def test_the_second_example(self):
        with self.assertRaises(TooMany):
            parting(4, 2, (), ())


class OpenTimesTest(Checking):

    def test_ahead_of_and_behind_flips(self):
        recipe = (("expose", 3, (1,)), FLIP, ("draw", 9, 4), ("expose", 1, (0, 3)), FLIP, ("draw", 2, 2))
        self.assertEqual(open_times(2, 2, recipe), ((5, 9), (0, 6), (5, 10), (3, 5)))

    def test_draws_that_leave_columns_less_than_nothing(self):
        self.assertEqual(open_times(4, 1, (("draw", 5, 2),)), ((5, 0), (3, 0), (1, 0), (0, 0)))
        self.assertEqual(open_times(4, 1, (ONCE, FLIP, ("draw", 1, 99))), ((1, 1), (1, 0), (1, 0), (1, 0)))

    def test_no_deeds_and_flips_alone(self):
        self.assertEqual(open_times(3, 3, ()), ((0, 0),) * 9)
        self.assertEqual(open_times(1, 1, (FLIP, FLIP, FLIP)), ((0, 0),))

    def test_a_middle_column_is_told_as_it_lies(self):
        self.assertEqual(open_times(1, 1, (FLIP, ("expose", 7, ()))), ((0, 7),))

    def test_the_longest_times(self):
        self.assertEqual(open_times(1, 1, (("expose", 99, ()),) * 8), ((792, 0),))

    def test_open_times_make_the_light(self):
        densities = "031420"
        for recipe in itertools.product(deeds_for(6), repeat=3):
            times = open_times(3, 2, recipe)
            through = [model.UNITS[figure] for figure in densities]
            turned = [model.UNITS[figure] for figure in model.flipped_rows(3, densities)]
            got = tuple(times[cell][0] * through[cell] + times[cell][1] * turned[cell] for cell in range(6))
            self.assertEqual(got, model.light(3, densities, recipe), recipe)

    def test_wrong_sizes(self):
        self.assert_sizes(open_times, ())
        self.assert_sizes(open_times, (BAD,))

    def test_wrong_recipes(self):
        self.assert_index(1, open_times, 2, 2, (ONCE, BAD, BAD))
        self.assert_index(0, open_times, 2, 2, (("expose", 1, (4,)),))
        self.assert_index(8, open_times, 2, 2, (FLIP,) * 9)
        self.assert_index(0, open_times, 2, 2, (("expose", True, ()),))
        self.assert_index(0, open_times, 2, 2, ((),))


class NeedlessTest(Checking):

    def test_no_deeds(self):
        self.assertEqual(needless(2, 2, ()), ())

    def test_a_last_flip(self):
        self.assertEqual(needless(2, 1, (ONCE, FLIP)), (1,))
        self.assertEqual(needless(2, 1, (ONCE, FLIP, FLIP)), (1, 2))
        self.assertEqual(needless(2, 1, (FLIP, ONCE)), ())

    def test_flips_that_are_needless_together_but_not_alone(self):
        self.assertEqual(needless(2, 1, (FLIP, FLIP, ONCE)), ())
        self.assertEqual(needless(2, 1, (ONCE, FLIP, ("expose", 5, (0, 1)), FLIP, ONCE)), (2,))

    def test_flips_ahead_of_as_much_light_on_both_sides(self):
        self.assertEqual(needless(2, 1, (FLIP, ONCE, FLIP, ONCE)), (0,))
        self.assertEqual(needless(2, 1, (FLIP, ONCE, FLIP, ("expose", 2, ()))), ())
        self.assertEqual(needless(2, 1, (ONCE, FLIP, ONCE, FLIP, ONCE, FLIP, ONCE)), (3,))

    def test_each_of_several_is_left_out_alone(self):
        recipe = (FLIP, ONCE, FLIP, ONCE, FLIP, ("expose", 1, (0, 1)), FLIP)
        self.assertEqual(needless(2, 1, recipe), (0, 4, 5, 6))
        for index in needless(2, 1, recipe):
            self.assertTrue(alike(2, 1, recipe, recipe[:index] + recipe[index + 1:]))

    def test_what_is_needless_alone_is_so_together(self):
        deeds = [FLIP, ONCE, ("expose", 1, (0,)), ("expose", 1, (0, 1))]
        for recipe in itertools.product(deeds, repeat=5):
            kept = [deed for index, deed in enumerate(recipe) if index not in needless(2, 1, recipe)]
            self.assertTrue(alike(2, 1, recipe, tuple(kept)), recipe)

    def test_masks_that_cover_all(self):
        self.assertEqual(needless(2, 1, (("expose", 5, (0, 1)),)), (0,))
        self.assertEqual(needless(2, 1, (("expose", 5, (0,)),)), ())
        self.assertEqual(needless(2, 1, (FLIP, ("expose", 5, (0, 1)))), (0, 1))

    def test_draws_are_never_needless(self):
        self.assertEqual(needless(4, 1, (("draw", 1, 99),)), ())
        self.assertEqual(needless(4, 1, (("expose", 99, ()),) * 7 + (("draw", 1, 99),)), ())

    def test_light_beyond_all_steps_is_told_through_dense_negatives(self):
        self.assertEqual(needless(1, 1, (("expose", 99, ()),) * 8), ())
        self.assertEqual(needless(2, 1, (("expose", 99, ()),) * 6 + (FLIP, ("expose", 1, ()))), ())

    def test_one_column_needs_no_flips(self):
        self.assertEqual(needless(1, 3, (FLIP, ONCE, FLIP, ONCE)), (0, 2))
        self.assertEqual(needless(3, 1, (FLIP, ("expose", 1, (0, 2)))), (0,))
        self.assertEqual(needless(3, 1, (FLIP, ("expose", 1, (0,)))), ())

    def test_against_the_slow_model(self):
        steps = [tuple(range(first, first + 5)) for first in range(1, 120, 5)]
        for width, height in [(1, 1), (2, 1), (1, 2), (3, 1)]:
            cells = width * height
            for recipe in itertools.product(deeds_for(cells), repeat=3):
                expected = []
                for index in range(3):
                    less = recipe[:index] + recipe[index + 1:]
                    if all(model.tones(paper, model.light(width, densities, less))
                           == model.tones(paper, model.light(width, densities, recipe))
                           for densities in model.all_texts(cells) for paper in steps):
                        expected.append(index)
                self.assertEqual(needless(width, height, recipe), tuple(expected), (width, height, recipe))

    def test_wrong_arguments(self):
        self.assert_sizes(needless, ())
        self.assert_sizes(needless, (BAD,))
        self.assert_index(1, needless, 2, 2, (ONCE, BAD))
        self.assert_index(0, needless, 3, 2, (("expose", 1, (6,)),))
        self.assert_index(0, needless, 1, 1, (("expose", 1, (1,)),))
        self.assertEqual(needless(3, 2, (("expose", 1, (5,)),)), ())
        self.assert_index(8, needless, 2, 2, (FLIP,) * 9)


class AlikeTest(Checking):

    def test_recipes_that_are_alike(self):
        self.assertIs(alike(2, 2, (), ()), True)
        self.assertIs(alike(2, 2, (), (FLIP, ("expose", 9, (0, 1, 2, 3)))), True)
        self.assertIs(alike(2, 2, (("expose", 3, ()),), (ONCE, ONCE, ONCE)), True)
        self.assertIs(alike(2, 1, (("draw", 5, 2),), (("expose", 3, ()), ("expose", 2, (1,)))), True)
        self.assertIs(alike(2, 1, (FLIP, ONCE, FLIP, ONCE), (ONCE, FLIP, ONCE)), True)
        self.assertIs(alike(3, 3, (FLIP, FLIP, ONCE), (ONCE, FLIP)), True)

    def test_recipes_that_are_not(self):
        self.assertIs(alike(2, 2, (), (ONCE,)), False)
        self.assertIs(alike(2, 1, (ONCE,), (FLIP, ONCE)), False)
        self.assertIs(alike(3, 3, (("expose", 1, (8,)),), (("expose", 1, (7,)),)), False)
        self.assertIs(alike(2, 1, (("draw", 5, 2),), (("draw", 5, 3),)), False)

    def test_one_column_and_middle_columns(self):
        self.assertIs(alike(1, 3, (("expose", 5, (1,)),), (FLIP, ("expose", 5, (1,)))), True)
        self.assertIs(alike(3, 1, (("expose", 5, (0, 2)),), (FLIP, ("expose", 5, (0, 2)))), True)
        self.assertIs(alike(3, 1, (("expose", 5, (0,)),), (FLIP, ("expose", 5, (0,)))), False)
        self.assertIs(alike(4, 1, (("expose", 5, (0, 3)),), (FLIP, ("expose", 5, (0, 3)))), False)

    def test_more_than_six_cells(self):
        self.assertIs(alike(3, 3, (ONCE,), (FLIP, ONCE)), False)
        self.assertIs(alike(4, 2, (ONCE,), (ONCE, FLIP)), True)

    def test_wrong_arguments(self):
        self.assert_sizes(alike, (), ())
        self.assert_sizes(alike, (BAD,), (BAD,))
        self.assert_index(1, alike, 2, 2, (ONCE, BAD), (BAD,))
        self.assert_index(2, alike, 2, 2, (ONCE,), (ONCE, ONCE, BAD))
        self.assert_index(0, alike, 1, 1, (("expose", 1, (1,)),), ())
        self.assert_index(0, alike, 1, 1, (), (("expose", 1, (1,)),))
        self.assert_index(8, alike, 2, 2, (FLIP,) * 8, (FLIP,) * 9)


class PartingTest(Checking):

    def test_the_first_densities(self):
        self.assertEqual(parting(2, 2, (), (ONCE,)), "0000")
        self.assertEqual(parting(2, 3, (ONCE,), (FLIP, ONCE)), "000001")
        self.assertEqual(parting(2, 3, (("expose", 1, (2, 3, 4, 5)),), (FLIP, ("expose", 1, (2, 3, 4, 5)))), "010000")
        self.assertEqual(parting(4, 1, (("expose", 1, (0, 1, 3)),), (FLIP, ("expose", 1, (0, 1, 3)))), "0010")

    def test_light_that_two_densities_make_equal(self):
        # 16 units once are as many as 8 units twice, so that the first negative does not part these.
        one, other = (("expose", 2, ()), FLIP, ONCE), (ONCE, FLIP, ("expose", 2, ()))
        self.assertEqual(parting(2, 1, one, other), "01")

    def test_none_if_they_are_alike(self):
        self.assertIsNone(parting(1, 2, (ONCE,), (FLIP, ONCE)))
        self.assertIsNone(parting(3, 2, (ONCE, ONCE), (("expose", 2, ()), FLIP)))
        self.assertIsNone(parting(1, 1, (), ()))

    def test_against_the_slow_model(self):
        for width, height in [(1, 1), (2, 1), (1, 2), (3, 1)]:
            recipes = list(itertools.product(deeds_for(width * height), repeat=2))
            for one, other in itertools.product(recipes, repeat=2):
                expected = model.first_parting(width, height, one, other)
                self.assertEqual(parting(width, height, one, other), expected, (width, height, one, other))
                self.assertEqual(alike(width, height, one, other), expected is None)

    def test_the_answer_parts_them(self):
        one, other = (("draw", 9, 2), FLIP, ONCE), (("draw", 9, 3), FLIP, ("expose", 2, (0,)))
        densities = parting(3, 2, one, other)
        self.assertNotEqual(lights(Negative(3, 2, densities), one), lights(Negative(3, 2, densities), other))

    def test_more_than_six_cells(self):
        self.assertEqual(parting(3, 2, (), (ONCE,)), "000000")
        self.assertEqual(parting(2, 3, (), (ONCE,)), "000000")
        for width, height in [(4, 2), (2, 4), (3, 3)]:
            with self.assertRaises(TooMany):
                parting(width, height, (), (ONCE,))
            with self.assertRaises(TooMany):
                parting(width, height, (), ())

    def test_the_order_of_the_errors(self):
        self.assert_sizes(parting, (), ())
        self.assert_sizes(parting, (BAD,), (BAD,))
        self.assert_index(1, parting, 3, 3, (ONCE, BAD), (BAD,))
        self.assert_index(0, parting, 3, 3, (ONCE,), (BAD,))
        self.assert_index(0, parting, 2, 2, (ONCE,), (BAD,))


if __name__ == "__main__":
    unittest.main()
