"""Points 17 to 19 of the document: strips, papers that are as quick as others, and exposures that are not known."""

import itertools
import unittest

from maskedprints.errors import InvalidMask, InvalidNumber, InvalidPapers, InvalidSize, InvalidSteps, InvalidTones
from maskedprints.negatives import Negative, lights, printed
from maskedprints.strips import band_times, bands, exposure_count, exposure_times, first_exposure, quick, quick_count
from maskedprints.strips import quick_row, strip_recipe
from tests import model
from tests.checking import WRONG_STEPS, Checking

SHORT = Negative(3, 1, "012")
SQUARE = Negative(2, 2, "0012")
STEPS = (10, 40)
WRONG_MASKS = [(1, 0), (0, 2, 1), (1, 1), (0, 0, 1), (3,), (0, 3), (-1,), (-1, 0), (True,), (0, True), (False, 1),
               (0, 1, 2, 3), ("1",), ((1,),), (None,), [0], [], "0", "", 0, None, True]
# Wrong as tones of two steps, but for those of WRONG_TONES.
BEYOND = ["203", "301", "?03"]


def small_papers(greatest, most):
    """All papers of up to so many steps from 1 to a greatest one."""
    return [steps for size in range(1, most + 1) for steps in itertools.combinations(range(1, greatest + 1), size)]


def slow_quick(one, other):
    """Whether no light up to beyond all steps gives the one a lesser tone."""
    tones = [model.tones(steps, range(max(one + other) + 2)) for steps in (one, other)]
    return all(mine >= theirs for mine, theirs in zip(*tones))


def slow_rows(papers):
    """All tuples of different indexes, one at least, each of whose papers is as quick as the one behind it."""
    indexes = range(len(papers))
    rows = [row for size in range(1, len(papers) + 1) for row in itertools.permutations(indexes, size)]
    return [row for row in rows if all(slow_quick(papers[one], papers[other]) for one, other in zip(row, row[1:]))]


def slow_exposures(negative, steps, tones):
    """All exposures by which a print shows tones that were seen, in tuple order, by trying each of them."""
    cells = range(len(negative))
    masks = sorted(mask for size in range(len(negative) + 1) for mask in itertools.combinations(cells, size))
    found = []
    for time in range(1, 100):
        for mask in masks:
            made = model.light(negative.width, negative.densities, (("expose", 1, mask),))
            if model.shows(model.tones(steps, [time * units for units in made]), tones):
                found.append((time, mask))
    return found


class ExampleTest(Checking):

    def test_the_first_example(self):
        one = Negative(2, 1, "01")
        some, papers = (10, 20), ((6,), (5, 9))
        self.assertEqual(strip_recipe(2, 1, 3), (("expose", 3, ()), ("expose", 3, (0,))))
        self.assertEqual(bands(one, some, 1, 1), [0, 1])
        self.assertEqual(band_times(one, some, 0, 1), [1])
        self.assertIs(quick(papers[1], papers[0]), True)
        self.assertEqual(quick_row(papers), (1, 0))
        self.assertEqual(quick_count(papers), 3)
        self.assertEqual(exposure_times(one, some, (0,), "?1"), [2])
        self.assertEqual(exposure_count(one, some, "?1"), 2)
        self.assertEqual(first_exposure(one, some, "?1"), (2, ()))

    def test_the_second_example(self):
        with self.assertRaises(InvalidSteps):
            bands(Negative(1, 1, "0"), (5, 5), 1, 0)


class StripRecipeTest(Checking):

    def test_one_column(self):
        self.assertEqual(strip_recipe(1, 1, 24), (("expose", 24, ()),))
        self.assertEqual(strip_recipe(1, 4, 1), (("expose", 1, ()),))

    def test_four_columns(self):
        self.assertEqual(strip_recipe(4, 1, 5), (("expose", 5, ()), ("expose", 5, (0,)), ("expose", 5, (0, 1)),
                                                 ("expose", 5, (0, 1, 2))))

    def test_several_rows(self):
        self.assertEqual(strip_recipe(2, 3, 9), (("expose", 9, ()), ("expose", 9, (0, 2, 4))))
        self.assertEqual(strip_recipe(4, 2, 1)[3], ("expose", 1, (0, 1, 2, 4, 5, 6)))
        self.assertEqual(strip_recipe(3, 3, 2)[1:], (("expose", 2, (0, 3, 6)), ("expose", 2, (0, 1, 3, 4, 6, 7))))

    def test_each_column_gets_one_exposure_more(self):
        for width, height in model.sizes():
            for time in (1, 24):
                got = lights(Negative(width, height, "4" * (width * height)), strip_recipe(width, height, time))
                self.assertEqual(got, tuple(range(time, time * width + 1, time)) * height, (width, height, time))

    def test_wrong_arguments(self):
        self.assert_sizes(strip_recipe, 1)
        self.assert_errors(InvalidNumber, strip_recipe, [(2, 1, time) for time in (0, 25, -1, 99, True, False)])

    def test_the_order_of_the_errors(self):
        self.assert_errors(InvalidSize, strip_recipe, [(0, 1, 0), (3, 4, 25), (1, True, True)])


class BandsTest(Checking):

    def test_columns_that_are_bands(self):
        self.assertEqual(bands(SHORT, STEPS, 1, 1), [0, 1, 2])
        self.assertEqual(bands(SHORT, STEPS, 2, 1), [0, 1, 2])
        self.assertEqual(bands(SHORT, STEPS, 3, 2), [0, 1])
        self.assertEqual(bands(SHORT, STEPS, 3, 1), [2])
        self.assertEqual(bands(SHORT, STEPS, 24, 0), [])

    def test_a_column_whose_cells_have_unlike_tones(self):
        self.assertEqual(bands(SQUARE, (10,), 1, 1), [])
        self.assertEqual(bands(SQUARE, (10,), 1, 0), [])
        self.assertEqual(bands(SQUARE, (10,), 2, 1), [0, 1])
        self.assertEqual(bands(SQUARE, (10, 33), 2, 1), [0])
        self.assertEqual(bands(SQUARE, (10, 33), 2, 2), [])

    def test_a_column_with_one_cell_that_has_the_tone(self):
        self.assertEqual(bands(Negative(1, 3, "010"), (16,), 1, 1), [])
        self.assertEqual(bands(Negative(1, 3, "001"), (16,), 1, 1), [])
        self.assertEqual(bands(Negative(1, 3, "100"), (16,), 1, 1), [])
        self.assertEqual(bands(Negative(1, 3, "000"), (16,), 1, 1), [0])

    def test_just_a_tone_and_not_a_greater_one(self):
        self.assertEqual(bands(Negative(1, 1, "0"), (1, 2, 3, 4, 5), 1, 4), [])
        self.assertEqual(bands(Negative(1, 1, "0"), (1, 2, 3, 4, 5), 1, 5), [0])
        self.assertEqual(bands(Negative(1, 1, "0"), (1, 2, 3, 4, 17), 1, 4), [0])

    def test_four_columns_and_one(self):
        self.assertEqual(bands(Negative(4, 1, "0000"), (32, 48), 1, 1), [1])
        self.assertEqual(bands(Negative(4, 1, "0000"), (32, 48), 1, 2), [2, 3])
        self.assertEqual(bands(Negative(4, 2, "00000001"), (32, 48), 1, 2), [2])
        self.assertEqual(bands(Negative(1, 1, "4"), (24,), 24, 1), [0])
        self.assertEqual(bands(Negative(1, 1, "4"), (25,), 24, 1), [])

    def test_against_the_slow_model(self):
        for negative in (SHORT, SQUARE, Negative(4, 2, "01203310"), Negative(1, 3, "112")):
            for steps in ((3,), (10, 40), (6, 12, 48), (1, 2, 3, 4, 5), (100, 200, 300)):
                for time, tone in itertools.product(range(1, 25), range(len(steps) + 1)):
                    found = []
                    for column in range(negative.width):
                        units = [model.UNITS[figure] for figure in negative.densities[column::negative.width]]
                        made = model.tones(steps, [time * (column + 1) * many for many in units])
                        if set(made) == {str(tone)}:
                            found.append(column)
                    self.assertEqual(bands(negative, steps, time, tone), found, (steps, time, tone))

    def test_wrong_arguments(self):
        self.assert_steps(lambda steps: bands(SHORT, steps, 1, 0))
        self.assert_errors(InvalidNumber, bands, [(SHORT, STEPS, time, 0) for time in (0, 25, -1, True, False)])
        self.assert_errors(InvalidNumber, bands, [(SHORT, STEPS, 1, tone) for tone in (-1, 3, 5, True, False)])
        self.assert_errors(InvalidNumber, bands, [(SHORT, (1, 2, 3, 4, 5), 1, 6), (SHORT, (1,), 1, 2)])

    def test_the_order_of_the_errors(self):
        self.assert_errors(InvalidSteps, bands, [(SHORT, (), 0, 9), (SHORT, (2, 1), 1, -1), (SHORT, (0,), 25, 0)])

    def test_the_list_may_be_modified(self):
        bands(SHORT, STEPS, 1, 1).append(9)
        self.assertEqual(bands(SHORT, STEPS, 1, 1), [0, 1, 2])


class BandTimesTest(Checking):

    def test_times_of_a_band(self):
        self.assertEqual(band_times(SHORT, STEPS, 0, 1), [1, 2])
        self.assertEqual(band_times(SHORT, STEPS, 2, 0), [])
        self.assertEqual(band_times(SHORT, STEPS, 2, 1), [1, 2, 3])
        self.assertEqual(band_times(SHORT, STEPS, 2, 2), list(range(4, 25)))

    def test_the_first_and_the_last_time(self):
        self.assertEqual(band_times(Negative(1, 1, "4"), (24,), 0, 1), [24])
        self.assertEqual(band_times(Negative(1, 1, "4"), (25,), 0, 1), [])
        self.assertEqual(band_times(Negative(1, 1, "4"), (25,), 0, 0), list(range(1, 25)))
        self.assertEqual(band_times(Negative(1, 1, "4"), (1, 2), 0, 1), [1])

    def test_cells_of_unlike_tones(self):
        self.assertEqual(band_times(Negative(1, 2, "04"), (16,), 0, 1), list(range(16, 25)))
        self.assertEqual(band_times(Negative(1, 2, "04"), (16, 30), 0, 1), [])
        self.assertEqual(band_times(Negative(1, 2, "03"), (16, 40), 0, 1), [])
        self.assertEqual(band_times(Negative(1, 2, "03"), (16, 400), 0, 1), list(range(8, 25)))

    def test_agrees_with_bands(self):
        for negative in (SHORT, SQUARE, Negative(4, 2, "01203310")):
            for column, tone in itertools.product(range(negative.width), range(3)):
                times = [time for time in range(1, 25) if column in bands(negative, STEPS, time, tone)]
                self.assertEqual(band_times(negative, STEPS, column, tone), times)

    def test_wrong_arguments(self):
        self.assert_steps(lambda steps: band_times(SHORT, steps, 0, 0))
        wrong = [(SHORT, STEPS, column, 0) for column in (-1, 3, 4, True, False)]
        self.assert_errors(InvalidNumber, band_times, wrong + [(SQUARE, STEPS, 2, 0), (SQUARE, STEPS, 3, 0)])
        self.assert_errors(InvalidNumber, band_times, [(SHORT, STEPS, 0, tone) for tone in (-1, 3, True, False)])

    def test_the_order_of_the_errors(self):
        self.assert_errors(InvalidSteps, band_times, [(SHORT, (), 9, 9), (SHORT, (1, 1), 0, -1)])


class QuickTest(Checking):

    def test_equal_papers(self):
        for steps in [(1,), (9999,), (10, 40), (1, 2, 3, 4, 5)]:
            self.assertIs(quick(steps, steps), True)

    def test_papers_of_different_numbers_of_steps(self):
        self.assertIs(quick((10, 40), (10,)), True)
        self.assertIs(quick((10,), (10, 40)), False)
        self.assertIs(quick((1, 2, 3), (3, 4)), True)
        self.assertIs(quick((3, 4), (1, 2, 3)), False)
        self.assertIs(quick((9998, 9999), (9999,)), True)
        self.assertIs(quick((9999,), (9998, 9999)), False)

    def test_neither_is_as_quick(self):
        for one, other in [((5, 20), (6, 10)), ((9,), (10, 11)), ((1, 9999), (2, 3)), ((10, 40), (20, 30))]:
            self.assertEqual((quick(one, other), quick(other, one)), (False, False), (one, other))

    def test_against_the_slow_model(self):
        for one, other in itertools.product(small_papers(6, 3), repeat=2):
            self.assertIs(quick(one, other), slow_quick(one, other), (one, other))

    def test_wrong_steps(self):
        self.assert_steps(lambda steps: quick(steps, STEPS))
        self.assert_steps(lambda steps: quick(STEPS, steps))
        self.assert_steps(lambda steps: quick(steps, steps))


class QuickRowTest(Checking):

    def assert_papers(self, index, papers):
        for call in (quick_row, quick_count):
            with self.assertRaises(InvalidPapers) as caught:
                call(papers)
            self.assertEqual(caught.exception.index, index, papers)

    def assert_rows(self, papers):
        rows = slow_rows(papers)
        longest = max(len(row) for row in rows)
        self.assertEqual(quick_row(papers), min(row for row in rows if len(row) == longest), papers)
        self.assertEqual(quick_count(papers), len(rows), papers)

    def test_no_papers(self):
        self.assertEqual(quick_row(()), ())
        self.assertEqual(quick_count(()), 0)

    def test_one_paper(self):
        self.assertEqual(quick_row(((9,),)), (0,))
        self.assertEqual(quick_count(((9,),)), 1)

    def test_equal_papers_are_taken_in_tuple_order(self):
        self.assertEqual(quick_row(((10,), (10,), (10,))), (0, 1, 2))
        self.assertEqual(quick_count(((10,), (10,), (10,))), 15)
        self.assertEqual(quick_row(((10,), (5,), (10,), (5,))), (1, 3, 0, 2))

    def test_papers_of_which_none_is_as_quick_as_another_one(self):
        papers = ((1, 9), (2, 8), (3, 7), (4, 6))
        self.assertEqual(quick_row(papers), (0,))
        self.assertEqual(quick_count(papers), 4)

    def test_seven_papers(self):
        self.assertEqual(quick_row(((9,),) * 7), (0, 1, 2, 3, 4, 5, 6))
        self.assertEqual(quick_count(((9,),) * 7), 13699)
        papers = ((7,), (6,), (5,), (4,), (3,), (2,), (1,))
        self.assertEqual(quick_row(papers), (6, 5, 4, 3, 2, 1, 0))
        self.assertEqual(quick_count(papers), 127)

    def test_the_first_of_several_rows(self):
        papers = ((5, 20), (6, 10), (4, 9), (30,))
        self.assertEqual(quick_row(papers), (2, 0, 3))
        self.assertEqual(quick_count(papers), 11)

    def test_against_the_slow_model(self):
        papers = [(1,), (2,), (1, 4), (2, 3), (3,), (2, 3, 4), (1,)]
        for size in range(1, 4):
            for some in itertools.permutations(papers, size):
                self.assert_rows(some)
        self.assert_rows(tuple(papers[:6]))
        self.assert_rows(((5, 9), (4, 10), (5, 9), (6,), (3, 8), (12,)))

    def test_wrong_papers(self):
        for steps in WRONG_STEPS:
            self.assert_papers(0, (steps,))
            self.assert_papers(2, (STEPS, STEPS, steps, STEPS, steps))
            self.assert_papers(6, (STEPS,) * 6 + (steps,))

    def test_the_eighth(self):
        self.assert_papers(7, (STEPS,) * 8)
        self.assert_papers(7, (STEPS,) * 20)
        self.assert_papers(7, (STEPS,) * 7 + ((),))
        self.assert_papers(7, (STEPS,) * 8 + ((),))
        self.assert_papers(6, (STEPS,) * 6 + ((), STEPS))
        self.assert_papers(0, ((),) + (STEPS,) * 7)


class ExposureTimesTest(Checking):

    def test_times(self):
        self.assertEqual(exposure_times(SHORT, STEPS, (1,), "201"), list(range(3, 10)))
        self.assertEqual(exposure_times(SHORT, STEPS, (), "211"), [3, 4])
        self.assertEqual(exposure_times(SHORT, STEPS, (0, 1, 2), "000"), list(range(1, 100)))
        self.assertEqual(exposure_times(SHORT, STEPS, (0, 1), "0?2"), list(range(10, 100)))

    def test_the_first_and_the_last_time(self):
        self.assertEqual(exposure_times(Negative(1, 1, "4"), (99,), (), "1"), [99])
        self.assertEqual(exposure_times(Negative(1, 1, "4"), (2,), (), "0"), [1])
        self.assertEqual(exposure_times(Negative(1, 1, "4"), (100,), (), "1"), [])
        self.assertEqual(exposure_times(Negative(1, 1, "4"), (1,), (), "1"), list(range(1, 100)))

    def test_a_covered_cell_has_the_tone_0(self):
        self.assertEqual(exposure_times(SHORT, STEPS, (1,), "?1?"), [])
        self.assertEqual(exposure_times(SHORT, STEPS, (1,), "?0?"), list(range(1, 100)))

    def test_nothing_seen(self):
        self.assertEqual(exposure_times(SHORT, STEPS, (0,), "???"), list(range(1, 100)))
        self.assertEqual(exposure_times(Negative(1, 1, "0"), STEPS, (0,), "?"), list(range(1, 100)))

    def test_wrong_masks(self):
        self.assert_errors(InvalidMask, exposure_times, [(SHORT, STEPS, mask, "???") for mask in WRONG_MASKS])
        for mask in [(), (0,), (2,), (0, 2), (0, 1, 2)]:
            self.assertEqual(len(exposure_times(SHORT, STEPS, mask, "???")), 99)
        self.assert_errors(InvalidMask, exposure_times, [(Negative(1, 1, "0"), STEPS, (1,), "?")])
        self.assertEqual(len(exposure_times(Negative(3, 3, "0" * 9), STEPS, (8,), "?" * 9)), 99)

    def test_wrong_arguments(self):
        self.assert_steps(lambda steps: exposure_times(SHORT, steps, (), "???"))
        self.assert_tones(lambda tones: exposure_times(SHORT, STEPS, (), tones), "?", *BEYOND)

    def test_the_order_of_the_errors(self):
        self.assert_errors(InvalidSteps, exposure_times, [(SHORT, (), (3,), "x"), (SHORT, (2, 1), (1, 1), "???")])
        self.assert_errors(InvalidMask, exposure_times, [(SHORT, STEPS, (3,), "x"), (SHORT, STEPS, (1, 0), "??")])


class ExposuresTest(Checking):

    def assert_exposures(self, negative, steps, tones):
        """Assert what the three functions tell, by trying each exposure."""
        found = slow_exposures(negative, steps, tones)
        self.assertEqual(exposure_count(negative, steps, tones), len(found), (steps, tones))
        self.assertEqual(first_exposure(negative, steps, tones), found[0] if found else None, (steps, tones))
        for mask in {mask for time, mask in found}:
            times = [time for time, each in found if each == mask]
            self.assertEqual(exposure_times(negative, steps, mask, tones), times, (steps, mask, tones))

    def test_nothing_seen(self):
        self.assertEqual(exposure_count(SHORT, STEPS, "???"), 99 * 8)
        self.assertEqual(first_exposure(SHORT, STEPS, "???"), (1, ()))
        self.assertEqual(exposure_count(Negative(3, 3, "0" * 9), STEPS, "?" * 9), 99 * 512)

    def test_covered_and_open_cells_that_look_the_same(self):
        self.assertEqual(exposure_count(SHORT, (9999,), "000"), 99 * 8)
        self.assertEqual(first_exposure(SHORT, (9999,), "000"), (1, ()))
        self.assertEqual(exposure_count(Negative(2, 1, "04"), (16,), "10"), 99 + 15)
        self.assertEqual(first_exposure(Negative(2, 1, "04"), (16,), "10"), (1, ()))

    def test_no_exposure_at_all(self):
        for tones in ("012", "12?", "?12", "1?2"):
            self.assertEqual(exposure_count(SHORT, (10, 11, 12), tones), 0)
            self.assertIsNone(first_exposure(SHORT, (10, 11, 12), tones))

    def test_cells_that_are_covered_ahead_of_one_that_must_be(self):
        self.assertEqual(first_exposure(SHORT, STEPS, "??0"), (1, ()))
        self.assertEqual(first_exposure(SHORT, (1,), "??0"), (1, (0, 1, 2)))
        self.assertEqual(first_exposure(SHORT, (1,), "1?0"), (1, (1, 2)))
        self.assertEqual(first_exposure(SHORT, (1,), "?01"), (1, (0, 1)))
        self.assertEqual(first_exposure(SHORT, (1,), "0??"), (1, (0,)))
        self.assertEqual(first_exposure(SHORT, (1,), "11?"), (1, ()))

    def test_the_first_and_the_last_time(self):
        self.assertEqual(first_exposure(Negative(2, 1, "44"), (99,), "1?"), (99, ()))
        self.assertEqual(exposure_count(Negative(2, 1, "44"), (99,), "1?"), 2)
        self.assertIsNone(first_exposure(Negative(2, 1, "44"), (100,), "1?"))
        self.assertEqual(first_exposure(Negative(2, 1, "44"), (1,), "10"), (1, (1,)))

    def test_against_all_exposures(self):
        for steps in [(10, 40), (17,), (2, 3, 30)]:
            for tones in model.seen_texts(3, len(steps)):
                self.assert_exposures(Negative(3, 1, "034"), steps, tones)
        for tones in ("2?00", "????", "0000", "1?1?", "?0?2", "2102"):
            self.assert_exposures(Negative(2, 2, "0214"), (9, 30), tones)

    def test_wrong_arguments(self):
        for call in (exposure_count, first_exposure):
            self.assert_steps(lambda steps: call(SHORT, steps, "???"))
            self.assert_tones(lambda tones: call(SHORT, STEPS, tones), "?", *BEYOND)
            self.assert_errors(InvalidTones, call, [(SHORT, (1,), "2??"), (Negative(1, 1, "0"), STEPS, "??")])
            self.assert_errors(InvalidTones, call, [(SHORT, (1, 2, 3, 4, 5), "6??")])

    def test_the_order_of_the_errors(self):
        for call in (exposure_count, first_exposure):
            self.assert_errors(InvalidSteps, call, [(SHORT, (), "x"), (SHORT, (2, 1), "????")])

    def test_repeated_calls_agree(self):
        for call in (exposure_count, first_exposure):
            self.assertEqual(call(SHORT, STEPS, "20?"), call(SHORT, STEPS, "20?"))
        self.assertEqual(printed(SHORT, STEPS, (("expose",) + first_exposure(SHORT, STEPS, "20?"),))[:2], "20")


if __name__ == "__main__":
    unittest.main()
