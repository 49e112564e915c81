"""Points 2 to 5 of the document: negatives, deeds, light, prints and tones."""

import inspect
import itertools
import unittest

from maskedprints.errors import InvalidNegative, InvalidNumber, InvalidRecipe, InvalidSteps, PrintError, UnknownCell
from maskedprints.negatives import Negative, first_tone, growing, lights, printed
from tests import model
from tests.checking import WRONG_STEPS, Checking

GOOD = ("expose", 1, ())
BAD = ("expose", 0, ())
SHORT = Negative(3, 1, "012")
STEPS = (10, 40)

WRONG_DEEDS = [
    (), ("flip", 1), ("flip", ()), ("flip", "flip"), ("Flip",), ("flop",), ("",), (1,), (True,), ((),), (("flip",),),
    ("expose",), ("expose", 3), ("expose", 3, (), ()), ("expose", 3, (1,), 2), ("exposed", 3, ()), ("EXPOSE", 3, ()),
    ("expose", 0, ()), ("expose", 100, ()), ("expose", -1, ()), ("expose", True, ()), ("expose", False, ()),
    ("expose", "3", ()), ("expose", (3,), ()), ("expose", (), 3), ("expose", 3, 1), ("expose", 3, 0),
    ("expose", 3, True), ("expose", 3, ""), ("expose", 3, "1"), ("expose", 3, (1, 0)), ("expose", 3, (0, 2, 1)),
    ("expose", 3, (1, 1)), ("expose", 3, (0, 0, 1)), ("expose", 3, (3,)), ("expose", 3, (0, 3)),
    ("expose", 3, (-1,)), ("expose", 3, (-1, 0)), ("expose", 3, (True,)), ("expose", 3, (0, True)),
    ("expose", 3, (False, 1)), ("expose", 3, ("1",)), ("expose", 3, ((1,),)), ("expose", 3, (0, (1,))),
    ("draw",), ("draw", 3), ("draw", 3, 1, 1), ("draw", 0, 1), ("draw", 100, 1), ("draw", -1, 1), ("draw", 3, 0),
    ("draw", 3, 100), ("draw", 3, -1), ("draw", True, 1), ("draw", 1, True), ("draw", "3", 1), ("draw", 3, "1"),
    ("draw", 3, ()), ("draw", 3, (1,)), ("draw", (3,), 1), ("expose", 3, 99), ("drawn", 3, 1), (3, 3, 1), (3, 3, ()),
    (True, 3, 1), (("draw",), 3, 1), (("expose",), 3, ()), ("flip", 3, 1), ("flip", 3, ()),
]
RIGHT_DEEDS = [
    ("flip",), ("expose", 1, ()), ("expose", 99, ()), ("expose", 3, (0,)), ("expose", 3, (2,)),
    ("expose", 3, (0, 2)), ("expose", 3, (0, 1, 2)), ("draw", 1, 1), ("draw", 99, 1), ("draw", 1, 99), ("draw", 99, 99),
]
RIGHT_STEPS = [(1,), (9999,), (1, 9999), (1, 2), (9998, 9999), (1, 2, 3, 4, 5), (1, 50, 51, 300, 9999)]


class ExampleTest(Checking):

    def test_the_first_example(self):
        self.assertEqual(lights(SHORT, (("expose", 3, (1,)),)), (48, 0, 12))
        self.assertEqual(printed(SHORT, (10, 40), (("expose", 3, (1,)),)), "201")
        self.assertEqual(lights(SHORT, (("draw", 5, 2),)), (80, 24, 4))
        self.assertEqual(lights(SHORT, (("flip",), ("expose", 1, ()))), (4, 8, 16))

    def test_the_second_example(self):
        recipe = (("expose", 3, (1,)), ("flip",), ("expose", 2, ()))
        self.assertEqual(list(growing(SHORT, (10, 40), recipe)), ["201", "201", "212"])
        self.assertEqual(first_tone(SHORT, (10, 40), recipe, 1, 1), 3)
        self.assertEqual(first_tone(SHORT, (10, 40), recipe, 0, 2), 1)
        self.assertIsNone(first_tone(SHORT, (10, 40), recipe, 0, 3))

    def test_the_third_example(self):
        with self.assertRaises(InvalidSteps):
            printed(SHORT, (40, 10), ())


class NegativeTest(Checking):

    def assert_part(self, part, width, height, densities):
        with self.assertRaises(InvalidNegative) as caught:
            Negative(width, height, densities)
        self.assertEqual(caught.exception.part, part, (width, height, densities))
        self.assertIsInstance(caught.exception, PrintError)

    def test_each_size_up_to_nine_cells(self):
        for width, height in itertools.product(range(-1, 7), repeat=2):
            densities = "0" * (width * height)
            if not 1 <= width <= 4:
                self.assert_part("width", width, height, densities)
            elif not 1 <= height <= 4 or width * height > 9:
                self.assert_part("height", width, height, densities)
            else:
                negative = Negative(width, height, densities)
                found = (negative.width, negative.height, negative.densities, len(negative))
                self.assertEqual(found, (width, height, densities, width * height))

    def test_edges_of_the_sides(self):
        self.assertEqual(len(Negative(1, 1, "4")), 1)
        self.assertEqual(len(Negative(4, 1, "0123")), 4)
        self.assertEqual(len(Negative(1, 4, "0123")), 4)
        self.assertEqual(len(Negative(3, 3, "012340123")), 9)
        self.assert_part("width", 0, 1, "")
        self.assert_part("width", 5, 1, "01234")
        self.assert_part("height", 1, 0, "")
        self.assert_part("height", 1, 5, "01234")

    def test_too_many_cells(self):
        self.assert_part("height", 3, 4, "0" * 12)
        self.assert_part("height", 4, 3, "0" * 12)
        self.assert_part("height", 4, 4, "0" * 16)
        self.assert_part("height", 4, 3, "")

    def test_densities(self):
        for wrong in ["", "01", "0123", "015", "01 ", " 01", "01-", "0a2", "00\n", "0\u0661" "2", "\uff11" "00", "???"]:
            self.assert_part("densities", 3, 1, wrong)
        self.assertEqual(Negative(3, 1, "444").densities, "444")

    def test_the_first_wrong_part(self):
        self.assert_part("width", 0, 0, "x")
        self.assert_part("width", 5, 1, "x")
        self.assert_part("height", 1, 5, "x")
        self.assert_part("height", 4, 4, "x")
        self.assert_part("densities", 4, 2, "x")

    def test_booleans_are_no_numbers(self):
        self.assert_part("width", True, 1, "0")
        self.assert_part("height", 1, True, "0")
        self.assert_part("width", True, True, "0")
        self.assert_part("width", False, 1, "")

    def test_equality(self):
        self.assertTrue(Negative(2, 3, "012340") == Negative(2, 3, "012340"))
        self.assertFalse(Negative(2, 3, "012340") != Negative(2, 3, "012340"))
        self.assertFalse(Negative(2, 3, "012340") == Negative(3, 2, "012340"))
        self.assertFalse(Negative(2, 3, "012340") == Negative(2, 3, "012341"))
        self.assertTrue(Negative(1, 4, "0000") != Negative(4, 1, "0000"))
        self.assertFalse(Negative(1, 4, "0000") == Negative(2, 2, "0000"))
        self.assertFalse(Negative(1, 1, "0") == "0")
        self.assertFalse(Negative(1, 1, "0") == (1, 1, "0"))

    def test_the_methods_stand_in_the_class(self):
        for name in ["width", "height", "densities", "__len__", "__eq__", "__init__"]:
            self.assertIn(name, vars(Negative))

    def test_the_parameters_are_called_as_written(self):
        self.assertEqual(Negative(width=2, height=1, densities="34"), Negative(2, 1, "34"))


class LightsTest(Checking):

    def test_the_units_of_each_density(self):
        self.assertEqual(lights(Negative(3, 2, "012340"), (("expose", 1, ()),)), (16, 8, 4, 2, 1, 16))
        self.assertEqual(lights(Negative(3, 2, "012340"), (("expose", 99, ()),)), (1584, 792, 396, 198, 99, 1584))

    def test_no_deeds_give_no_light(self):
        self.assertEqual(lights(Negative(2, 2, "0123"), ()), (0, 0, 0, 0))

    def test_masks_cover_cells_of_the_paper(self):
        square = Negative(2, 2, "0123")
        self.assertEqual(lights(square, (("expose", 2, (0, 3)),)), (0, 16, 8, 0))
        self.assertEqual(lights(square, (("expose", 2, (0, 1, 2, 3)),)), (0, 0, 0, 0))
        self.assertEqual(lights(square, (("expose", 2, (1,)), ("expose", 1, (0,)))), (32, 8, 12, 6))

    def test_a_flip_turns_each_row_until_the_next_flip(self):
        square = Negative(2, 2, "0123")
        once = ("expose", 1, ())
        self.assertEqual(lights(square, (("flip",), once)), (8, 16, 2, 4))
        self.assertEqual(lights(square, (("flip",), once, once)), (16, 32, 4, 8))
        self.assertEqual(lights(square, (("flip",), once, ("flip",), once)), (24, 24, 6, 6))
        self.assertEqual(lights(square, (("flip",), ("flip",), once)), (16, 8, 4, 2))
        self.assertEqual(lights(square, (once, ("flip",))), (16, 8, 4, 2))

    def test_masks_are_not_flipped(self):
        self.assertEqual(lights(SHORT, (("flip",), ("expose", 1, (0,)))), (0, 8, 16))
        self.assertEqual(lights(SHORT, (("flip",), ("draw", 3, 1))), (12, 16, 16))
        self.assertEqual(lights(Negative(3, 2, "012340"), (("flip",), ("expose", 1, (0, 5)))), (0, 8, 16, 16, 1, 0))

    def test_draws_open_the_columns_one_by_one(self):
        self.assertEqual(lights(Negative(4, 2, "0" * 8), (("draw", 5, 2),)), (80, 48, 16, 0, 80, 48, 16, 0))
        self.assertEqual(lights(Negative(4, 1, "4444"), (("draw", 99, 33),)), (99, 66, 33, 0))
        self.assertEqual(lights(Negative(4, 1, "4444"), (("draw", 1, 99),)), (1, 0, 0, 0))
        self.assertEqual(lights(Negative(2, 1, "44"), (("draw", 99, 99),)), (99, 0))
        self.assertEqual(lights(Negative(2, 1, "44"), (("draw", 99, 98),)), (99, 1))
        self.assertEqual(lights(Negative(1, 3, "444"), (("draw", 7, 99),)), (7, 7, 7))

    def test_columns_that_a_draw_leaves_less_than_nothing_lose_none(self):
        self.assertEqual(lights(Negative(4, 1, "4444"), (("expose", 9, ()), ("draw", 3, 5))), (12, 9, 9, 9))

    def test_against_the_slow_model(self):
        deeds = [("flip",), ("expose", 3, ()), ("draw", 7, 2), ("draw", 2, 3)]
        for width, height in model.sizes():
            cells = width * height
            densities = ("03142" * 2)[:cells]
            masks = [("expose", 2, (cells - 1,)), ("expose", 5, tuple(range(0, cells, 2)))]
            for recipe in itertools.product(deeds + masks, repeat=3):
                found = lights(Negative(width, height, densities), recipe)
                self.assertEqual(found, model.light(width, densities, recipe), (width, height, recipe))

    def test_the_kind_of_the_answer(self):
        self.assertIsInstance(lights(SHORT, ()), tuple)
        self.assertEqual(lights(negative=SHORT, recipe=(GOOD,)), lights(SHORT, (GOOD,)))


class RecipeTest(Checking):

    def test_right_deeds(self):
        for deed in RIGHT_DEEDS:
            self.assertEqual(len(lights(SHORT, (deed,))), 3, deed)

    def test_wrong_deeds(self):
        for deed in WRONG_DEEDS:
            self.assert_index(0, lights, SHORT, (deed,))
            self.assert_index(0, printed, SHORT, STEPS, (deed,))
            self.assert_index(0, first_tone, SHORT, STEPS, (deed,), 0, 0)
            self.assert_index(2, lights, SHORT, (("flip",), GOOD, deed, GOOD))

    def test_cells_are_those_of_the_negative(self):
        self.assertEqual(lights(Negative(3, 3, "0" * 9), (("expose", 1, (8,)),))[7:], (16, 0))
        self.assert_index(0, lights, Negative(3, 3, "0" * 9), (("expose", 1, (9,)),))
        self.assert_index(0, lights, Negative(1, 1, "0"), (("expose", 1, (1,)),))
        self.assertEqual(lights(Negative(1, 1, "0"), (("expose", 1, (0,)),)), (0,))

    def test_up_to_eight_deeds(self):
        self.assertEqual(lights(SHORT, (GOOD,) * 8), (128, 64, 32))
        self.assert_index(8, lights, SHORT, (GOOD,) * 9)
        self.assert_index(8, lights, SHORT, (GOOD,) * 12)
        self.assert_index(8, lights, SHORT, (("flip",),) * 9)

    def test_the_index_of_the_first_wrong_deed(self):
        self.assert_index(1, lights, SHORT, (GOOD, BAD, GOOD, BAD))
        self.assert_index(7, lights, SHORT, (GOOD,) * 7 + (BAD,))
        self.assert_index(3, lights, SHORT, (GOOD,) * 3 + (BAD,) + (GOOD,) * 6)
        self.assert_index(8, lights, SHORT, (GOOD,) * 8 + (BAD,))


class PrintedTest(Checking):

    def test_a_tone_counts_the_steps_that_are_not_greater(self):
        cell = Negative(1, 1, "4")
        for light in range(1, 100):
            steps = (1, 2, 50, 98, 99)
            expected = str((light >= 1) + (light >= 2) + (light >= 50) + (light >= 98) + (light >= 99))
            self.assertEqual(printed(cell, steps, (("expose", light, ()),)), expected)
        self.assertEqual(printed(cell, (1,), ()), "0")

    def test_the_greatest_step(self):
        bright = Negative(1, 1, "0")
        recipe = (("expose", 99, ()),) * 6
        self.assertEqual(printed(bright, (9504, 9999), recipe), "1")
        self.assertEqual(printed(bright, (9504, 9999), recipe + (("expose", 30, ()),)), "1")
        self.assertEqual(printed(bright, (9504, 9999), recipe + (("expose", 31, ()),)), "2")

    def test_right_steps(self):
        for steps in RIGHT_STEPS:
            recipe = (("draw", 99, 40), ("flip",), ("expose", 99, (0,)))
            expected = model.tones(steps, model.light(3, "012", recipe))
            self.assertEqual(printed(SHORT, steps, recipe), expected)

    def test_wrong_steps(self):
        for steps in WRONG_STEPS:
            for call in (printed, lambda *given: list(growing(*given))):
                with self.assertRaises(InvalidSteps, msg=steps):
                    call(SHORT, steps, ())
            with self.assertRaises(InvalidSteps, msg=steps):
                first_tone(SHORT, steps, (), 0, 0)

    def test_the_order_of_the_errors(self):
        with self.assertRaises(InvalidSteps):
            printed(SHORT, (0,), (BAD,))
        with self.assertRaises(InvalidSteps):
            list(growing(SHORT, (0,), (BAD,)))
        self.assert_index(0, printed, SHORT, STEPS, (BAD,))

    def test_repeated_calls_agree(self):
        recipe = (("flip",), ("draw", 5, 1), ("expose", 2, (0,)))
        self.assertEqual(printed(SHORT, STEPS, recipe), printed(SHORT, STEPS, recipe))
        self.assertEqual(recipe, (("flip",), ("draw", 5, 1), ("expose", 2, (0,))))
        self.assertEqual((SHORT.width, SHORT.height, SHORT.densities), (3, 1, "012"))


class GrowingTest(Checking):

    def test_a_print_behind_each_deed(self):
        turns = (("flip",), ("flip",))
        recipe = (("draw", 3, 1), ("flip",), ("expose", 2, (2,))) + turns + (("draw", 9, 4), ("expose", 7, ()))
        steps = (4, 40, 100, 200)
        for width, height, densities in [(3, 1, "041"), (2, 2, "0413"), (1, 4, "2104")]:
            expected = [model.tones(steps, model.light(width, densities, recipe[:many])) for many in range(1, 8)]
            self.assertEqual(list(growing(Negative(width, height, densities), steps, recipe)), expected)

    def test_no_deeds_yield_nothing(self):
        self.assertEqual(list(growing(SHORT, STEPS, ())), [])

    def test_eight_deeds(self):
        self.assertEqual(list(growing(Negative(1, 1, "0"), (16, 64, 128), (GOOD,) * 8)), list("11122223"))

    def test_it_is_a_generator(self):
        self.assertTrue(inspect.isgenerator(growing(SHORT, STEPS, ())))

    def test_errors_come_when_the_iteration_begins(self):
        for steps, recipe, error in [((40, 10), (), InvalidSteps), (STEPS, (GOOD, BAD), InvalidRecipe),
                                     (STEPS, (GOOD,) * 9, InvalidRecipe)]:
            prints = growing(SHORT, steps, recipe)
            with self.assertRaises(error):
                next(prints)

    def test_the_index_of_a_wrong_deed(self):
        self.assert_index(1, lambda: list(growing(SHORT, STEPS, (GOOD, BAD))))
        self.assert_index(8, lambda: list(growing(SHORT, STEPS, (GOOD,) * 9)))


class FirstToneTest(Checking):

    def test_the_tone_0_is_there_at_once(self):
        self.assertEqual(first_tone(SHORT, STEPS, (), 0, 0), 0)
        self.assertEqual(first_tone(SHORT, (1,), (("expose", 9, ()),), 2, 0), 0)

    def test_at_least_a_tone(self):
        recipe = (("expose", 1, (0,)), ("expose", 9, ()), ("expose", 9, ()))
        self.assertEqual(first_tone(SHORT, (1, 2, 3), recipe, 0, 1), 2)
        self.assertEqual(first_tone(SHORT, (1, 2, 3), recipe, 0, 3), 2)
        self.assertEqual(first_tone(SHORT, (1, 2, 3), recipe, 1, 3), 1)
        self.assertEqual(first_tone(SHORT, (1, 2, 72), recipe, 2, 3), 3)

    def test_a_tone_that_a_cell_never_has(self):
        self.assertIsNone(first_tone(SHORT, STEPS, (), 0, 1))
        self.assertIsNone(first_tone(SHORT, STEPS, (("expose", 99, (0,)),), 0, 1))
        self.assertEqual(first_tone(SHORT, STEPS, (("expose", 99, (0,)),), 1, 2), 1)

    def test_a_tone_beyond_the_number_of_steps(self):
        for tone in (3, 4, 5):
            self.assertIsNone(first_tone(SHORT, STEPS, (("expose", 99, ()),), 0, tone))
        self.assertEqual(first_tone(SHORT, (1, 2, 3, 4, 5), (("expose", 99, ()),), 0, 5), 1)

    def test_against_the_slow_model(self):
        deeds = [("flip",), ("expose", 2, (1,)), ("draw", 4, 3), ("expose", 1, (0, 2))]
        steps = (8, 24, 40)
        for recipe in itertools.product(deeds, repeat=3):
            prints = [model.tones(steps, model.light(3, "021", recipe[:many])) for many in range(4)]
            for cell, tone in itertools.product(range(3), range(6)):
                behind = [many for many in range(4) if int(prints[many][cell]) >= tone]
                found = first_tone(Negative(3, 1, "021"), steps, recipe, cell, tone)
                self.assertEqual(found, behind[0] if behind else None, (recipe, cell, tone))

    def test_unknown_cells(self):
        for cell in (-1, 3, 9, True, False):
            with self.assertRaises(UnknownCell, msg=cell):
                first_tone(SHORT, STEPS, (), cell, 0)
        self.assertEqual(first_tone(SHORT, STEPS, (), 2, 0), 0)

    def test_wrong_tones(self):
        for tone in (-1, 6, True, False):
            with self.assertRaises(InvalidNumber, msg=tone):
                first_tone(SHORT, STEPS, (), 0, tone)

    def test_the_order_of_the_errors(self):
        with self.assertRaises(InvalidSteps):
            first_tone(SHORT, (), (BAD,), 3, 6)
        self.assert_index(0, first_tone, SHORT, STEPS, (BAD,), 3, 6)
        with self.assertRaises(UnknownCell):
            first_tone(SHORT, STEPS, (), 3, 6)


if __name__ == "__main__":
    unittest.main()
