"""Point 1 of the document: what holds for the whole program."""

import unittest

from maskedprints import behind, codec, fewest, negatives, notation, recipes, repeats, scripts, strips, telling
from maskedprints.negatives import Negative
from maskedprints.viewing import Viewer

ONE = Negative(3, 1, "012")
STEPS = (10, 40)
RECIPE = (("expose", 3, (1,)), ("flip",), ("draw", 4, 1))
CALLS = [
    (negatives.lights, ONE, RECIPE), (negatives.printed, ONE, STEPS, RECIPE), (recipes.open_times, 3, 1, RECIPE),
    (negatives.first_tone, ONE, STEPS, RECIPE, 1, 1), (recipes.needless, 3, 1, RECIPE),
    (recipes.alike, 3, 1, RECIPE, ()), (recipes.parting, 3, 1, RECIPE, ()), (fewest.times_for, ONE, STEPS, 0, 1),
    (fewest.exposures, ONE, STEPS, "201", 3), (fewest.fewest_exposures, ONE, STEPS, "201", 3),
    (fewest.draws_for, ONE, STEPS, "210"), (telling.told, 3, 1, STEPS, RECIPE, "2??"),
    (telling.negative_count, 3, 1, STEPS, RECIPE, "2??"), (telling.first_negative, 3, 1, STEPS, RECIPE, "2??"),
    (telling.telling_time, STEPS, 0, 1), (telling.papers_agree, (STEPS, (5,)), ONE, RECIPE, "???"),
    (telling.first_unlike, STEPS, (10,)), (telling.first_paper, ONE, RECIPE, "2??", 2),
    (telling.masks_told, ONE, STEPS, 3, "20?"), (telling.mask_count, ONE, STEPS, 3, "20?"),
    (behind.behind, ONE, ONE), (behind.least_behind, ONE, ONE), (behind.pair_count, ONE), (behind.faded, 10, 25, 0),
    (behind.ticks_until, 10, 6080, 0), (strips.strip_recipe, 3, 1, 3), (strips.bands, ONE, STEPS, 1, 1),
    (strips.band_times, ONE, STEPS, 0, 1), (strips.quick, STEPS, (11,)), (strips.quick_row, (STEPS, (11,))),
    (strips.quick_count, (STEPS, (11,))), (strips.exposure_times, ONE, STEPS, (1,), "20?"),
    (strips.exposure_count, ONE, STEPS, "20?"), (strips.first_exposure, ONE, STEPS, "20?"),
    (repeats.light_after, ONE, RECIPE, 0, 9), (repeats.times_until, ONE, STEPS, RECIPE, 0, 2),
    (repeats.same_print, ONE, STEPS, RECIPE, 9), (repeats.dark_order, ONE, STEPS, RECIPE), (notation.picture, ONE),
    (notation.recipe_text, RECIPE), (notation.read_recipe, ONE, "flip\nexpose 1 0"),
    (notation.open_map, 3, 1, RECIPE), (codec.encode_negative, ONE), (codec.decode_negative, [107, 2, 1, 0, 1, 57]),
]


class WholeTest(unittest.TestCase):

    def test_repeated_calls_return_equal_results(self):
        for call, *given in CALLS:
            found = call(*given)
            self.assertEqual(call(*given), found, call)
            if isinstance(found, list):
                found.append("more")
                self.assertNotEqual(call(*given), found, call)

    def test_a_script_again(self):
        for again in range(2):
            room, output = scripts.run_script(ONE, STEPS, "expose 1\nfresh\nshow")
            self.assertEqual((output, room.prints_made), (["100", "000"], ["100"]))
            self.assertEqual(room.history, [("expose", 1, ()), ("fresh",)])
            output.clear()
            room.flip()

    def test_questions_again(self):
        viewer = Viewer(3, 1, STEPS, RECIPE)
        viewer.seen(0, 2)
        for ask in (viewer.best_look, viewer.sure_densities, viewer.sure_tones):
            self.assertEqual(ask(), ask())

    def test_the_negative_stays(self):
        self.assertEqual((ONE.width, ONE.height, ONE.densities, len(ONE)), (3, 1, "012", 3))


if __name__ == "__main__":
    unittest.main()
