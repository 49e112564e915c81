"""Points 24 and 25 of the document: somebody who sees single cells."""

import random
import unittest

from maskedprints.errors import InvalidNumber, InvalidRecipe, InvalidSize, InvalidSteps, NoNegative, UnknownCell
from maskedprints.negatives import Negative, printed
from maskedprints.viewing import Viewer
from tests import model
from tests.checking import Checking

STEPS = (10, 20)
ALL_STEPS = (2, 3, 5, 9)
FLIP = ("flip",)
ONCE = ("expose", 1, ())
BAD = ("draw", 0, 1)
TWICE = (ONCE, FLIP, ("expose", 1, (1,)))
RECIPES = [(), (ONCE,), (ONCE, FLIP, ONCE), (("draw", 3, 1), FLIP, ONCE), (FLIP, ("expose", 2, (0,))),
           (("expose", 3, (1,)), FLIP, ("expose", 2, (0,)), FLIP)]


class SlowViewer:
    """What a viewer is to tell, by looking through all negatives."""

    def __init__(self, width, height, steps, recipe):
        self.tones_of = {text: model.tones(steps, model.light(width, text, recipe))
                         for text in model.all_texts(width * height)}

    def fitting(self, cell, tone):
        return {text: made for text, made in self.tones_of.items() if made[cell] == str(tone)}

    def sure(self, texts):
        return "".join(figures[0] if len(set(figures)) == 1 else "?" for figures in zip(*texts))

    def marks(self):
        """How many negatives are possible, the sure densities, the sure tones, and the best look."""
        made = list(self.tones_of.values())
        most = [max(len(self.fitting(cell, tone)) for tone in range(6)) for cell in range(len(made[0]))]
        return [len(made), self.sure(self.tones_of), self.sure(made), most.index(min(most))]


def marks(viewer):
    return [viewer.count_left, viewer.sure_densities(), viewer.sure_tones(), viewer.best_look()]


class ViewerCase(Checking):

    def assert_refused(self, error, viewer, cell, tone):
        """Assert that a call raises an error and changes nothing."""
        before = marks(viewer) + [viewer.told_so_far]
        with self.assertRaises(error, msg=(cell, tone)):
            viewer.seen(cell, tone)
        self.assertEqual(marks(viewer) + [viewer.told_so_far], before, (cell, tone))


class ExampleTest(ViewerCase):

    def test_the_first_example(self):
        viewer = Viewer(2, 1, (10, 20), (("expose", 1, ()),))
        found = [viewer.count_left, viewer.best_look(), viewer.seen(0, 1)]
        found = found + [viewer.sure_densities(), viewer.sure_tones(), viewer.best_look(), viewer.told_so_far]
        self.assertEqual(found, [25, 0, 5, "0?", "1?", 1, [(0, 1)]])

    def test_the_second_example(self):
        with self.assertRaises(NoNegative):
            Viewer(2, 1, (10, 20), (("expose", 1, ()),)).seen(0, 2)


class NewViewerTest(ViewerCase):

    def test_all_negatives_are_possible(self):
        for width, height in model.sizes():
            viewer = Viewer(width, height, ALL_STEPS, (ONCE,))
            self.assertEqual(viewer.count_left, 5 ** (width * height))
            self.assertEqual(viewer.told_so_far, [])
            self.assertEqual(viewer.sure_densities(), "?" * (width * height))

    def test_recipes_of_no_deeds(self):
        viewer = Viewer(3, 3, STEPS, ())
        self.assertEqual(marks(viewer), [5 ** 9, "?" * 9, "0" * 9, 0])
        self.assertEqual(viewer.seen(8, 0), 5 ** 9)
        self.assert_refused(NoNegative, viewer, 0, 1)
        self.assertEqual(marks(viewer), [5 ** 9, "?" * 9, "0" * 9, 0])

    def test_wrong_arguments(self):
        self.assert_sizes(Viewer, STEPS, ())
        self.assert_errors(InvalidSize, Viewer, [(10 ** 9, 10 ** 9, STEPS, ())])
        self.assert_steps(lambda steps: Viewer(2, 1, steps, ()))
        self.assert_index(1, Viewer, 2, 1, STEPS, (ONCE, BAD))
        self.assert_index(0, Viewer, 2, 1, STEPS, (("expose", 1, (2,)),))
        self.assert_index(8, Viewer, 2, 1, STEPS, (ONCE,) * 9)

    def test_the_order_of_the_errors(self):
        self.assert_errors(InvalidSize, Viewer, [(4, 4, (), (BAD,)), (0, 1, STEPS, (BAD,)), (1, True, (2, 1), ())])
        self.assert_errors(InvalidSteps, Viewer, [(2, 1, (), (BAD,)), (2, 1, (2, 1), (ONCE,) * 9)])
        self.assert_errors(InvalidRecipe, Viewer, [(2, 1, STEPS, (BAD,))])

    def test_the_properties_cannot_be_assigned(self):
        for name in ("count_left", "told_so_far"):
            with self.assertRaises(AttributeError):
                setattr(Viewer(2, 1, STEPS, ()), name, 1)


class SeenTest(ViewerCase):

    def test_each_tone_leaves_fewer(self):
        viewer = Viewer(3, 1, ALL_STEPS, (ONCE,))
        self.assertEqual([viewer.seen(0, 0), viewer.seen(2, 4), viewer.seen(1, 2)], [25, 5, 1])
        self.assertEqual(viewer.count_left, 1)
        self.assertEqual(viewer.told_so_far, [(0, 0), (2, 4), (1, 2)])
        self.assertEqual(viewer.sure_densities(), "420")

    def test_cells_seen_twice_with_the_same_tone(self):
        viewer = Viewer(2, 1, STEPS, (ONCE,))
        self.assertEqual([viewer.seen(0, 1), viewer.seen(0, 1), viewer.seen(1, 0), viewer.seen(0, 1)], [5, 5, 4, 4])
        self.assertEqual(viewer.told_so_far, [(0, 1), (0, 1), (1, 0), (0, 1)])

    def test_cells_seen_twice_with_another_tone(self):
        viewer = Viewer(2, 1, STEPS, (ONCE,))
        viewer.seen(0, 1)
        self.assert_refused(NoNegative, viewer, 0, 0)
        self.assert_refused(NoNegative, viewer, 0, 2)
        self.assertEqual(viewer.seen(1, 0), 4)
        self.assert_refused(NoNegative, viewer, 1, 1)
        self.assertEqual(viewer.told_so_far, [(0, 1), (1, 0)])

    def test_tones_that_no_negative_gives(self):
        viewer = Viewer(2, 1, STEPS, (ONCE,))
        self.assert_refused(NoNegative, viewer, 0, 2)
        self.assert_refused(NoNegative, viewer, 1, 2)
        self.assertEqual(viewer.told_so_far, [])
        self.assertEqual(viewer.seen(0, 1), 5)

    def test_tones_that_go_together_with_no_other_cell(self):
        # Both cells of the print get light through both densities, so that they have the same tone.
        viewer = Viewer(2, 1, (20,), (ONCE, FLIP, ONCE))
        self.assertEqual(viewer.count_left, 25)
        self.assertEqual(viewer.seen(0, 1), 5)
        self.assert_refused(NoNegative, viewer, 1, 0)
        self.assertEqual(viewer.seen(1, 1), 5)

    def test_two_cells_of_the_print_tell_of_the_same_densities(self):
        # The cell 0 of the print gets light through both densities, the cell 1 through its own one alone.
        viewer = Viewer(2, 1, (9, 17), TWICE)
        self.assertEqual(viewer.seen(1, 0), 20)
        self.assertEqual(viewer.seen(0, 0), 9)
        self.assert_refused(NoNegative, viewer, 0, 1)
        viewer = Viewer(2, 1, (9, 17), TWICE)
        self.assertEqual(viewer.seen(1, 1), 5)
        self.assert_refused(NoNegative, viewer, 0, 0)
        self.assert_refused(NoNegative, viewer, 0, 1)
        self.assertEqual(viewer.seen(0, 2), 5)

    def test_the_middle_column(self):
        viewer = Viewer(3, 1, (9, 17), (ONCE, FLIP, ONCE))
        self.assertEqual(viewer.seen(1, 2), 25)
        self.assertEqual(viewer.sure_densities(), "?0?")
        self.assertEqual(viewer.seen(0, 0), 9)

    def test_one_to_five_steps(self):
        for steps in [(9,), (5, 9), (3, 5, 9), (2, 3, 5, 9), (2, 3, 5, 9, 17)]:
            viewer = Viewer(2, 1, steps, (ONCE,))
            self.assertEqual(viewer.seen(0, min(4, len(steps))), 5)
            self.assertEqual(viewer.sure_densities(), "0?")
            self.assert_refused(InvalidNumber, viewer, 0, len(steps) + 1)

    def test_wrong_arguments(self):
        viewer = Viewer(3, 1, STEPS, (ONCE,))
        for cell in (-1, 3, 9, True, False):
            self.assert_refused(UnknownCell, viewer, cell, 0)
        for tone in (-1, 3, 5, True, False):
            self.assert_refused(InvalidNumber, viewer, 0, tone)

    def test_the_order_of_the_errors(self):
        viewer = Viewer(3, 1, STEPS, (ONCE,))
        viewer.seen(0, 0)
        self.assert_refused(UnknownCell, viewer, 3, 9)
        self.assert_refused(UnknownCell, viewer, True, 2)
        self.assert_refused(InvalidNumber, viewer, 0, 3)
        self.assert_refused(InvalidNumber, viewer, 0, True)

    def test_lists_that_the_caller_modifies(self):
        viewer = Viewer(2, 1, STEPS, (ONCE,))
        viewer.seen(0, 1)
        viewer.told_so_far.append((1, 0))
        viewer.told_so_far.clear()
        self.assertEqual(viewer.told_so_far, [(0, 1)])
        self.assertEqual(viewer.count_left, 5)


class SureTest(ViewerCase):

    def test_all_cells_seen(self):
        viewer = Viewer(2, 2, ALL_STEPS, (ONCE,))
        made = printed(Negative(2, 2, "0413"), ALL_STEPS, (ONCE,))
        for cell, tone in enumerate(made):
            viewer.seen(cell, int(tone))
        self.assertEqual(marks(viewer), [1, "0413", made, 0])

    def test_a_density_that_is_sure_by_two_cells_together(self):
        for looks, counts in [([(0, 2), (1, 0)], [9, 3]), ([(1, 0), (0, 2)], [15, 3])]:
            viewer = Viewer(2, 1, (5, 17), TWICE)
            self.assertEqual(viewer.seen(*looks[0]), counts[0])
            self.assertEqual(viewer.sure_densities(), "??")
            self.assertEqual(viewer.seen(*looks[1]), counts[1])
            self.assertEqual((viewer.sure_densities(), viewer.sure_tones()), ("0?", "20"))

    def test_cells_that_are_sure_though_they_were_not_seen(self):
        viewer = Viewer(2, 1, (31,), (ONCE, FLIP, ONCE))
        self.assertEqual(viewer.sure_tones(), "??")
        viewer.seen(0, 1)
        self.assertEqual((viewer.sure_densities(), viewer.sure_tones()), ("00", "11"))

    def test_a_cell_that_was_seen_is_sure(self):
        viewer = Viewer(3, 1, (10, 20), (ONCE,))
        viewer.seen(1, 0)
        self.assertEqual((viewer.sure_densities(), viewer.sure_tones()), ("???", "?0?"))


class BestLookTest(ViewerCase):

    def test_looks_that_leave_equally_many(self):
        self.assertEqual(Viewer(3, 3, ALL_STEPS, (ONCE,)).best_look(), 0)
        viewer = Viewer(3, 1, ALL_STEPS, (ONCE,))
        looks = []
        for again in range(3):
            looks.append(viewer.best_look())
            viewer.seen(looks[-1], 2)
        self.assertEqual(looks + [viewer.best_look()], [0, 1, 2, 0])

    def test_the_cell_that_tells_most(self):
        self.assertEqual(Viewer(3, 1, (10, 20, 40), (("expose", 1, ()), ("expose", 3, (0, 1)))).best_look(), 2)
        self.assertEqual(Viewer(3, 1, (9,), (("expose", 1, (0, 1)),)).best_look(), 2)
        self.assertEqual(Viewer(3, 1, (9,), (("expose", 1, (0, 2)),)).best_look(), 1)

    def test_a_cell_that_tells_of_two_densities(self):
        recipe = (("expose", 1, (1,)), FLIP, ("expose", 3, (0, 1)))
        slow = SlowViewer(3, 1, ALL_STEPS, recipe)
        self.assertEqual(Viewer(3, 1, ALL_STEPS, recipe).best_look(), slow.marks()[3])

    def test_nothing_can_be_told(self):
        self.assertEqual(Viewer(3, 1, STEPS, (FLIP,)).best_look(), 0)


class PlainSearchTest(ViewerCase):

    def assert_marks(self, viewer, slow, given):
        self.assertEqual(marks(viewer), slow.marks(), given)

    def assert_seen(self, viewer, slow, cell, tone, given):
        """Tell a tone to both viewers, and compare all that they tell then."""
        left = slow.fitting(cell, tone)
        if left:
            self.assertEqual(viewer.seen(cell, tone), len(left), given)
            slow.tones_of = left
        else:
            self.assert_refused(NoNegative, viewer, cell, tone)
        self.assert_marks(viewer, slow, given)

    def test_small_sizes(self):
        chance = random.Random(25)
        for width, height in [(1, 1), (2, 1), (3, 1), (1, 2), (2, 2), (4, 1)]:
            cells = width * height
            for recipe in RECIPES:
                recipe = tuple(deed if deed[0] != "expose" else ("expose", deed[1], tuple(
                    cell for cell in deed[2] if cell < cells)) for deed in recipe)
                for steps in [(9,), (10, 20), (3, 9, 33), (2, 3, 5, 9, 17)]:
                    viewer, slow = Viewer(width, height, steps, recipe), SlowViewer(width, height, steps, recipe)
                    self.assert_marks(viewer, slow, (width, height, recipe, steps))
                    for again in range(6):
                        cell, tone = chance.randrange(cells), chance.randrange(len(steps) + 1)
                        given = (width, height, recipe, steps, viewer.told_so_far, cell, tone)
                        self.assert_seen(viewer, slow, cell, tone, given)


if __name__ == "__main__":
    unittest.main()
