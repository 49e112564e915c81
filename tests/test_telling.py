"""Points 11 to 14 of the document: what prints tell of negatives, of papers, and of masks."""

import itertools
import unittest

from maskedprints.errors import InvalidNumber, InvalidPapers, InvalidRecipe, InvalidSize, InvalidSteps, InvalidTones
from maskedprints.negatives import Negative, printed
from maskedprints.telling import first_negative, first_paper, first_unlike, mask_count, masks_told, negative_count
from maskedprints.telling import papers_agree, telling_time, told
from tests import model
from tests.checking import WRONG_SIZES, WRONG_STEPS, Checking

SHORT = Negative(3, 1, "012")
STEPS = (10, 40)
FLIP = ("flip",)
ONCE = ("expose", 1, ())
BAD = ("draw", 0, 1)
BEYOND = ["203", "301", "?03"]


def sure(texts):
    """The figure of each place that is the same in all texts, "?" for all others, None if there are no texts."""
    if not texts:
        return None
    return "".join(figures[0] if len(set(figures)) == 1 else "?" for figures in zip(*texts))


class ExampleTest(Checking):

    def test_the_first_example(self):
        steps, recipe = (10, 40), (("expose", 3, ()),)
        self.assertEqual(told(3, 1, steps, recipe, "210"), "0??")
        self.assertEqual(negative_count(3, 1, steps, recipe, "210"), 4)
        self.assertEqual(first_negative(3, 1, steps, recipe, "210"), "013")
        self.assertIsNone(telling_time(steps, 0, 2))
        self.assertEqual(telling_time((10, 20, 40), 0, 2), 2)

    def test_the_second_example(self):
        recipe = (("expose", 3, (1,)),)
        self.assertEqual(papers_agree(((10, 40), (5,)), SHORT, recipe, "?01"), (0, 1))
        self.assertEqual(first_unlike((10, 40), (10, 50)), 40)
        self.assertEqual(first_paper(SHORT, recipe, "201", 2), (1, 13))
        self.assertEqual(masks_told(SHORT, (10, 40), 3, "20?"), "oc?")
        self.assertEqual(mask_count(SHORT, (10, 40), 3, "20?"), 2)
        self.assertIsNone(masks_told(SHORT, (10, 40), 3, "1??"))

    def test_the_third_example(self):
        with self.assertRaises(InvalidNumber):
            telling_time((10,), 3, 2)


class NegativesToldTest(Checking):

    def assert_told(self, width, height, steps, recipe, tones, texts):
        """Assert that the three names tell of just these negatives, in tuple order."""
        given = (width, height, steps, recipe, tones)
        self.assertEqual(told(*given), sure(texts), given)
        self.assertEqual(negative_count(*given), len(texts), given)
        self.assertEqual(first_negative(*given), texts[0] if texts else None, given)

    def assert_all_told(self, width, height, steps, recipe):
        """Assert what all tones that can be seen tell, by looking at each negative."""
        prints = [(text, model.tones(steps, model.light(width, text, recipe)))
                  for text in model.all_texts(width * height)]
        for tones in model.seen_texts(width * height, len(steps)):
            texts = [text for text, made in prints if model.shows(made, tones)]
            self.assert_told(width, height, steps, recipe, tones, texts)

    def test_no_cell_seen(self):
        for recipe in [(), (ONCE,), (FLIP, ("draw", 9, 2), FLIP, ONCE)]:
            given = (3, 3, STEPS, recipe, "?" * 9)
            self.assertEqual([told(*given), negative_count(*given), first_negative(*given)], ["?" * 9, 5 ** 9, "0" * 9])

    def test_all_cells_seen(self):
        self.assert_told(3, 3, (2, 3, 5, 9), (ONCE,), "432101234", ["012343210"])
        self.assert_told(2, 2, (3, 9), (ONCE,), "2102", ["0" + one + two + "0" for one in "12" for two in "34"])

    def test_some_cells_seen(self):
        self.assert_told(2, 1, (3, 9), (ONCE,), "?2", ["00", "10", "20", "30", "40"])
        self.assert_told(2, 1, (3, 9), (ONCE,), "1?", [one + two for one in "12" for two in "01234"])

    def test_tones_that_no_negative_gives(self):
        self.assert_told(2, 1, STEPS, (ONCE,), "2?", [])
        self.assert_told(2, 1, (1,), (ONCE,), "10", [])
        self.assert_told(2, 1, (1,), (ONCE,), "11", model.all_texts(2))
        self.assert_told(1, 3, (16, 17), (("expose", 1, (1,)),), "010", [])
        self.assert_told(3, 1, STEPS, (("expose", 3, (1,)),), "?1?", [])

    def test_recipes_of_no_deeds(self):
        self.assert_told(2, 2, (1, 2), (), "0?00", model.all_texts(4))
        self.assert_told(2, 2, (1, 2), (), "0?01", [])

    def test_one_cell_of_the_print_tells_of_two_densities(self):
        recipe = (("expose", 1, ()), FLIP, ("expose", 1, ()))
        self.assert_told(2, 1, (32,), recipe, "1?", ["00"])
        self.assert_told(2, 1, (32,), recipe, "?1", ["00"])
        self.assert_told(2, 1, (24, 25), recipe, "1?", ["01", "10"])
        self.assert_told(2, 1, (3,), recipe, "0?", ["44"])
        # 33 units are two ticks of 16 and one of 1, so that each cell of the print tells which density lies where.
        recipe = (("expose", 2, ()), FLIP, ("expose", 1, ()))
        self.assert_told(2, 1, (33, 34), recipe, "1?", ["04"])
        self.assert_told(2, 1, (33, 34), recipe, "?1", ["40"])
        self.assert_told(2, 1, (33, 34), recipe, "11", [])

    def test_the_middle_column_under_flips(self):
        recipe = (FLIP, ("expose", 1, ()))
        self.assert_told(3, 1, (16,), recipe, "?1?", [one + "0" + two for one in "01234" for two in "01234"])
        self.assert_told(3, 1, (8, 16), recipe, "211", ["110"])
        # In one column the two times of a cell are the light of one density.
        self.assert_told(1, 2, (16, 17), (ONCE, FLIP, ONCE), "1?", ["1" + two for two in "01234"])
        self.assert_told(1, 2, (24, 25), (ONCE, FLIP, ONCE), "1?", [])

    def test_the_first_in_tuple_order(self):
        given = (2, 1, (24, 25), (("expose", 1, ()), FLIP, ("expose", 1, ())), "1?")
        self.assertEqual(first_negative(*given), "01")
        recipe = (("expose", 1, (0,)), FLIP, ("expose", 1, (1,)))
        self.assertEqual(first_negative(2, 2, (8, 16), recipe, "?1?2"), "0100")
        self.assertEqual(first_negative(2, 2, (8, 16), recipe, "1?0?"), "0123")

    def test_against_all_small_negatives(self):
        deeds = [FLIP, ("expose", 1, ()), ("expose", 2, (0,)), ("draw", 3, 2)]
        for width, height in [(1, 1), (2, 1), (1, 2)]:
            for recipe in itertools.product(deeds, repeat=3):
                self.assert_all_told(width, height, (9, 33), recipe)

    def test_against_all_negatives_of_three_and_four_cells(self):
        turned = (("draw", 3, 1), FLIP, ("expose", 1, (1,)))
        for steps in [(12,), (5, 20, 33)]:
            self.assert_all_told(3, 1, steps, turned)
            self.assert_all_told(1, 3, steps, turned)
        self.assert_all_told(2, 2, (12, 34), turned)
        self.assert_all_told(4, 1, (9, 20), (ONCE, FLIP, ("expose", 2, (2,)), FLIP, ("draw", 4, 1)))

    def test_the_largest_inputs(self):
        recipe = (("draw", 99, 1), FLIP) * 4
        steps = (2000, 4000, 6000, 8000, 9999)
        for densities in ("012340123", "444432100", "102030401"):
            tones = printed(Negative(3, 3, densities), steps, recipe)
            first = first_negative(3, 3, steps, recipe, tones)
            self.assertLessEqual(first, densities)
            self.assertEqual(printed(Negative(3, 3, first), steps, recipe), tones)
            self.assertGreaterEqual(negative_count(3, 3, steps, recipe, tones), 1)
            marks = told(3, 3, steps, recipe, tones)
            self.assertTrue(model.shows(densities, marks) and model.shows(first, marks))

    def test_wrong_arguments(self):
        for call in (told, negative_count, first_negative):
            for width, height in WRONG_SIZES:
                self.assert_errors(InvalidSize, call, [(width, height, STEPS, (), "")])
            self.assert_steps(lambda steps: call(3, 1, steps, (), "???"))
            self.assert_index(1, call, 3, 1, STEPS, (ONCE, BAD), "???")
            self.assert_index(0, call, 3, 1, STEPS, (("expose", 1, (3,)),), "???")
            self.assert_index(8, call, 3, 1, STEPS, (ONCE,) * 9, "???")
            self.assert_tones(lambda tones: call(3, 1, STEPS, (ONCE,), tones), *BEYOND)
            self.assert_errors(InvalidTones, call, [(3, 1, (1,), (), "2??"), (1, 3, STEPS, (), "??")])
            self.assert_errors(InvalidTones, call, [(1, 1, STEPS, (), "??"), (2, 2, STEPS, (), "???")])

    def test_figures_up_to_the_number_of_steps(self):
        self.assertEqual(negative_count(3, 1, (1, 2, 3, 4, 5), (("expose", 5, ()),), "555"), 125)
        self.assert_errors(InvalidTones, told, [(3, 1, (1, 2, 3, 4, 5), (), "006")])

    def test_the_order_of_the_errors(self):
        for call in (told, negative_count, first_negative):
            self.assert_errors(InvalidSize, call, [(4, 4, (), (BAD,), "x"), (0, 1, STEPS, (), "")])
            self.assert_errors(InvalidSteps, call, [(3, 1, (), (BAD,), "x"), (3, 1, (2, 1), (), "x")])
            self.assert_errors(InvalidRecipe, call, [(3, 1, STEPS, (BAD,), "x")])

    def test_repeated_calls_agree(self):
        given = (3, 1, STEPS, (("expose", 3, ()),), "210")
        for call in (told, negative_count, first_negative):
            self.assertEqual(call(*given), call(*given))


class TellingTimeTest(Checking):

    def test_one_density_is_told_at_once(self):
        for density in range(5):
            self.assertEqual(telling_time((9999,), density, density), 1)
            self.assertEqual(telling_time((1,), density, density), 1)

    def test_two_densities(self):
        self.assertEqual(telling_time((10,), 0, 1), 1)
        self.assertEqual(telling_time((17,), 0, 1), 2)
        self.assertEqual(telling_time((100,), 3, 4), 50)
        self.assertEqual(telling_time((1, 2), 3, 4), 1)

    def test_all_densities(self):
        self.assertEqual(telling_time((2, 3, 5, 9), 0, 4), 1)
        self.assertEqual(telling_time((200, 300, 500, 900), 0, 4), 100)
        self.assertIsNone(telling_time((2, 3, 9), 0, 4))
        self.assertEqual(telling_time((2, 3, 8), 1, 4), 1)
        self.assertEqual(telling_time((3, 5, 9), 1, 4), 2)
        self.assertIsNone(telling_time((2, 3, 9), 1, 4))

    def test_steps_that_tell_by_no_time(self):
        self.assertIsNone(telling_time((10, 11), 0, 2))
        self.assertIsNone(telling_time((5,), 0, 2))
        self.assertIsNone(telling_time((1, 2, 3, 4, 5), 0, 4))
        self.assertIsNone(telling_time((1,), 3, 4))

    def test_the_last_time(self):
        self.assertEqual(telling_time((1998,), 3, 4), 999)
        self.assertEqual(telling_time((1997,), 3, 4), 999)
        self.assertEqual(telling_time((1996,), 3, 4), 998)
        self.assertIsNone(telling_time((1999,), 3, 4))

    def test_against_the_slow_model(self):
        papers = [(1,), (7,), (10, 40), (5, 9), (3, 8, 30), (100, 101, 150), (9, 20, 40, 50), (2, 20, 200, 2000, 9999)]
        for steps in papers:
            for low, high in itertools.combinations_with_replacement(range(5), 2):
                units = (16, 8, 4, 2, 1)[low:high + 1]
                times = [time for time in range(1, 1000)
                         if len(set(model.tones(steps, [time * many for many in units]))) == len(units)]
                self.assertEqual(telling_time(steps, low, high), times[0] if times else None, (steps, low, high))

    def test_wrong_arguments(self):
        self.assert_steps(lambda steps: telling_time(steps, 0, 0))
        wrong = [(-1, 2), (5, 5), (True, 2), (False, 2), (-1, -1), (0, 5), (0, -1), (0, True), (0, False), (1, True),
                 (3, 2), (4, 0), (1, 0), (4, 5), (5, 4)]
        self.assert_errors(InvalidNumber, telling_time, [(STEPS, low, high) for low, high in wrong])

    def test_the_order_of_the_errors(self):
        self.assert_errors(InvalidSteps, telling_time, [((), 3, 2), ((2, 1), -1, 5)])


class PapersAgreeTest(Checking):

    def assert_papers(self, index, papers, *others):
        with self.assertRaises(InvalidPapers) as caught:
            papers_agree(papers, *others)
        self.assertEqual(caught.exception.index, index, papers)

    def test_papers_of_different_numbers_of_steps(self):
        papers = ((10,), (1, 2), (12, 13), (40, 48), (1, 12, 48), (13, 48), (1, 2, 3, 4, 5))
        recipe = (("expose", 3, (1,)),)
        found = {"201": (2,), "2?2": (1,), "2??": (1, 2, 3, 5), "200": (3, 5), "302": (4,), "505": (6,), "101": (0,),
                 "??0": (3, 5), "5??": (6,), "4??": (), "?1?": (), "?0?": tuple(range(7)), "???": tuple(range(7))}
        for tones, indexes in found.items():
            self.assertEqual(papers_agree(papers, SHORT, recipe, tones), indexes, tones)

    def test_no_papers(self):
        self.assertEqual(papers_agree((), SHORT, (ONCE,), "???"), ())

    def test_figures_that_are_more_than_a_paper_has_steps(self):
        self.assertEqual(papers_agree(((1,), (1, 2, 3, 4)), SHORT, (ONCE,), "4??"), (1,))
        self.assertEqual(papers_agree(((1,), (2,)), SHORT, (ONCE,), "555"), ())
        self.assertEqual(papers_agree(((1, 2, 3, 4, 5),), SHORT, (ONCE,), "554"), (0,))

    def test_equal_papers(self):
        self.assertEqual(papers_agree(((10,), (10,), (20,)), SHORT, (ONCE,), "1?0"), (0, 1))

    def test_many_papers(self):
        papers = tuple((step,) for step in range(1, 41))
        self.assertEqual(papers_agree(papers, SHORT, (ONCE,), "?10"), (4, 5, 6, 7))

    def test_wrong_papers(self):
        for steps in WRONG_STEPS:
            self.assert_papers(0, (steps,), SHORT, (), "???")
            self.assert_papers(2, ((1,), STEPS, steps, (9,), steps), SHORT, (), "???")

    def test_wrong_arguments(self):
        self.assert_index(1, papers_agree, (STEPS,), SHORT, (ONCE, BAD), "???")
        self.assert_index(8, papers_agree, (), SHORT, (ONCE,) * 9, "???")
        self.assert_tones(lambda tones: papers_agree((STEPS,), SHORT, (ONCE,), tones), "6??", "??7", "999")
        self.assert_tones(lambda tones: papers_agree((), SHORT, (ONCE,), tones))

    def test_the_order_of_the_errors(self):
        self.assert_papers(1, (STEPS, (2, 1)), SHORT, (BAD,), "x")
        self.assert_errors(InvalidRecipe, papers_agree, [((STEPS,), SHORT, (BAD,), "x"), ((), SHORT, (BAD,), "x")])


class FirstUnlikeTest(Checking):

    def test_equal_papers(self):
        for steps in [(1,), (9999,), (10, 40), (1, 2, 3, 4, 5)]:
            self.assertIsNone(first_unlike(steps, steps))

    def test_unlike_papers(self):
        self.assertEqual(first_unlike((10,), (20,)), 10)
        self.assertEqual(first_unlike((20,), (10,)), 10)
        self.assertEqual(first_unlike((10, 50), (10, 40)), 40)
        self.assertEqual(first_unlike((9998,), (9999,)), 9998)
        self.assertEqual(first_unlike((5, 20, 30), (10, 11, 12)), 5)

    def test_papers_of_different_numbers_of_steps(self):
        self.assertEqual(first_unlike((10,), (10, 40)), 40)
        self.assertEqual(first_unlike((10, 40), (10,)), 40)
        self.assertEqual(first_unlike((10, 40), (40,)), 10)
        self.assertEqual(first_unlike((1, 2, 3, 4, 5), (1, 2, 3, 4)), 5)

    def test_against_the_slow_model(self):
        papers = [steps for size in (1, 2, 3) for steps in itertools.combinations(range(1, 7), size)]
        for one, other in itertools.product(papers, repeat=2):
            unlike = [light for light in range(10) if model.tones(one, [light]) != model.tones(other, [light])]
            self.assertEqual(first_unlike(one, other), unlike[0] if unlike else None, (one, other))

    def test_wrong_steps(self):
        self.assert_steps(lambda steps: first_unlike(steps, STEPS))
        self.assert_steps(lambda steps: first_unlike(STEPS, steps))
        self.assert_steps(lambda steps: first_unlike(steps, steps))


class FirstPaperTest(Checking):

    def test_nothing_seen(self):
        for count in range(1, 6):
            self.assertEqual(first_paper(SHORT, (ONCE,), "???", count), (1, 2, 3, 4, 5)[:count])
            self.assertEqual(first_paper(SHORT, (), "000", count), (1, 2, 3, 4, 5)[:count])

    def test_each_step_is_as_low_as_it_can_be(self):
        self.assertEqual(first_paper(SHORT, (ONCE,), "210", 2), (5, 9))
        self.assertEqual(first_paper(SHORT, (ONCE,), "310", 3), (5, 9, 10))
        self.assertEqual(first_paper(SHORT, (ONCE,), "200", 5), (9, 10, 17, 18, 19))
        self.assertEqual(first_paper(SHORT, (ONCE,), "5??", 5), (1, 2, 3, 4, 5))
        self.assertEqual(first_paper(SHORT, (ONCE,), "0??", 1), (17,))

    def test_steps_that_cannot_be(self):
        self.assertIsNone(first_paper(SHORT, (ONCE,), "??5", 5))
        self.assertEqual(first_paper(SHORT, (ONCE,), "??4", 4), (1, 2, 3, 4))
        self.assertIsNone(first_paper(SHORT, (ONCE,), "012", 2))
        self.assertIsNone(first_paper(SHORT, (("expose", 1, (0,)),), "1??", 1))
        self.assertIsNone(first_paper(SHORT, (), "??1", 3))

    def test_steps_beyond_the_greatest(self):
        bright = Negative(1, 1, "0")
        recipe = (("expose", 99, ()),) * 6
        self.assertEqual(first_paper(bright, recipe + (("expose", 30, ()),), "0", 5), (9985, 9986, 9987, 9988, 9989))
        self.assertIsNone(first_paper(bright, recipe + (("expose", 31, ()),), "0", 1))
        self.assertEqual(first_paper(bright, recipe + (("expose", 31, ()),), "1", 1), (1,))
        self.assertIsNone(first_paper(bright, recipe + (("expose", 31, ()),), "1", 2))
        self.assertEqual(first_paper(bright, recipe + (("expose", 31, ()),), "2", 2), (1, 2))

    def test_cells_of_the_same_light(self):
        twins = Negative(2, 1, "00")
        self.assertIsNone(first_paper(twins, (ONCE,), "01", 1))
        self.assertIsNone(first_paper(twins, (ONCE,), "12", 5))
        self.assertEqual(first_paper(twins, (ONCE,), "11", 2), (1, 17))
        self.assertEqual(first_paper(twins, (ONCE,), "1?", 2), (1, 17))

    def test_against_all_small_papers(self):
        for densities, recipe in [("432", (ONCE,)), ("344", (("draw", 3, 1),)), ("433", (FLIP, ("expose", 2, (1,))))]:
            got = model.light(3, densities, recipe)
            for count in (1, 2, 3):
                papers = [(steps, model.tones(steps, got)) for steps in itertools.combinations(range(1, 13), count)]
                for tones in model.seen_texts(3, count):
                    fitting = [steps for steps, made in papers if model.shows(made, tones)]
                    found = first_paper(Negative(3, 1, densities), recipe, tones, count)
                    self.assertEqual(found, fitting[0] if fitting else None, (densities, recipe, tones, count))

    def test_wrong_arguments(self):
        self.assert_index(1, first_paper, SHORT, (ONCE, BAD), "???", 2)
        self.assert_index(8, first_paper, SHORT, (ONCE,) * 9, "???", 2)
        wrong = [(SHORT, (ONCE,), "???", count) for count in (0, 6, -1, True, False)]
        self.assert_errors(InvalidNumber, first_paper, wrong)
        self.assert_tones(lambda tones: first_paper(SHORT, (ONCE,), tones, 2), *BEYOND)

    def test_figures_up_to_the_count(self):
        self.assert_errors(InvalidTones, first_paper, [(SHORT, (ONCE,), "2??", 1), (SHORT, (ONCE,), "??5", 4)])
        self.assertEqual(first_paper(SHORT, (ONCE,), "2??", 2), (1, 2))

    def test_the_order_of_the_errors(self):
        self.assert_errors(InvalidRecipe, first_paper, [(SHORT, (BAD,), "x", 6), (SHORT, (BAD,), "???", True)])
        self.assert_errors(InvalidNumber, first_paper, [(SHORT, (ONCE,), "x", 6), (SHORT, (ONCE,), "2??", True)])


class MasksTest(Checking):

    def assert_masks(self, negative, steps, time, tones):
        """Assert what both names tell, by looking at each mask."""
        cells = len(negative)
        masks = []
        for marks in itertools.product("co", repeat=cells):
            covered = tuple(cell for cell in range(cells) if marks[cell] == "c")
            got = model.light(negative.width, negative.densities, (("expose", time, covered),))
            if model.shows(model.tones(steps, got), tones):
                masks.append("".join(marks))
        self.assertEqual(masks_told(negative, steps, time, tones), sure(masks), (steps, time, tones))
        self.assertEqual(mask_count(negative, steps, time, tones), len(masks), (steps, time, tones))

    def test_covered_and_open_cells_that_look_the_same(self):
        self.assertEqual(masks_told(SHORT, STEPS, 1, "000"), "c??")
        self.assertEqual(mask_count(SHORT, STEPS, 1, "000"), 4)
        self.assertEqual(masks_told(SHORT, STEPS, 1, "100"), "o??")
        self.assertEqual(masks_told(SHORT, (17,), 1, "000"), "???")
        self.assertEqual(mask_count(SHORT, (17,), 1, "000"), 8)

    def test_cells_that_were_not_seen(self):
        self.assertEqual(masks_told(SHORT, STEPS, 10, "???"), "???")
        self.assertEqual(mask_count(SHORT, STEPS, 10, "???"), 8)
        self.assertEqual(masks_told(SHORT, STEPS, 10, "?0?"), "?c?")
        self.assertEqual(mask_count(SHORT, STEPS, 10, "?0?"), 4)
        self.assertEqual(mask_count(Negative(3, 3, "0" * 9), STEPS, 99, "?" * 9), 512)

    def test_all_cells_are_sure(self):
        self.assertEqual(masks_told(SHORT, STEPS, 10, "202"), "oco")
        self.assertEqual(mask_count(SHORT, STEPS, 10, "202"), 1)

    def test_tones_that_no_mask_gives(self):
        self.assertIsNone(masks_told(SHORT, STEPS, 10, "212"))
        self.assertEqual(mask_count(SHORT, STEPS, 10, "212"), 0)
        self.assertIsNone(masks_told(SHORT, STEPS, 10, "??1"))
        self.assertEqual(mask_count(SHORT, STEPS, 10, "??1"), 0)

    def test_the_first_and_the_last_time(self):
        self.assertEqual(masks_told(Negative(1, 1, "4"), (1,), 1, "1"), "o")
        self.assertEqual(masks_told(Negative(1, 1, "4"), (99,), 99, "1"), "o")
        self.assertIsNone(masks_told(Negative(1, 1, "4"), (99,), 98, "1"))

    def test_against_all_masks(self):
        for time in (1, 2, 5, 11):
            for steps in [(2,), (10, 40), (4, 17, 33)]:
                for tones in model.seen_texts(3, len(steps)):
                    self.assert_masks(Negative(3, 1, "034"), steps, time, tones)
        for tones in model.seen_texts(4, 2):
            self.assert_masks(Negative(2, 2, "0214"), (9, 30), 3, tones)

    def test_wrong_arguments(self):
        for call in (masks_told, mask_count):
            self.assert_steps(lambda steps: call(SHORT, steps, 1, "???"))
            self.assert_errors(InvalidNumber, call, [(SHORT, STEPS, time, "???") for time in (0, 100, -1, True, False)])
            self.assert_tones(lambda tones: call(SHORT, STEPS, 1, tones), *BEYOND)

    def test_the_order_of_the_errors(self):
        for call in (masks_told, mask_count):
            self.assert_errors(InvalidSteps, call, [(SHORT, (), 0, "x"), (SHORT, (2, 1), 100, "???")])
            self.assert_errors(InvalidNumber, call, [(SHORT, STEPS, 0, "x"), (SHORT, STEPS, True, "203")])


if __name__ == "__main__":
    unittest.main()
