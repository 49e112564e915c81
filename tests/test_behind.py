"""Points 15 and 16 of the document: two negatives one behind the other, and a lamp that fades."""

import itertools
import unittest

from maskedprints.behind import behind, faded, least_behind, pair_count, ticks_until
from maskedprints.errors import InvalidNumber, UnlikeSizes
from maskedprints.negatives import Negative
from tests import model
from tests.checking import Checking

SHORT = Negative(3, 1, "012")
LIFE = 10 ** 15
MOST = 10 ** 18
UNLIKE = [(3, 1, 1, 3), (1, 3, 3, 1), (2, 1, 3, 1), (3, 1, 2, 1), (2, 2, 4, 1), (4, 1, 2, 2), (4, 2, 2, 4),
          (3, 2, 3, 3), (1, 1, 1, 2), (1, 1, 2, 1)]


def slow_faded(life, ticks, density):
    """The sixteenths of a unit of light that a cell gets, tick by tick."""
    return sum(max(0, 16 - tick // life) * (16, 8, 4, 2, 1)[density] for tick in range(ticks))


class ExampleTest(Checking):

    def test_the_first_example(self):
        self.assertEqual(behind(SHORT, Negative(3, 1, "140")).densities, "142")
        self.assertEqual(least_behind(SHORT, Negative(3, 1, "142")), "130")
        self.assertIsNone(least_behind(SHORT, Negative(3, 1, "002")))
        self.assertEqual(pair_count(Negative(2, 1, "04")), 15)
        self.assertEqual(faded(10, 25, 0), 6080)
        self.assertEqual(ticks_until(10, 6080, 0), 25)
        self.assertIsNone(ticks_until(1, 10 ** 18, 4))

    def test_the_second_example(self):
        with self.assertRaises(UnlikeSizes):
            behind(SHORT, Negative(1, 3, "012"))


class BehindTest(Checking):

    def test_each_sum(self):
        for mine, theirs in itertools.product(range(5), repeat=2):
            found = behind(Negative(1, 1, str(mine)), Negative(1, 1, str(theirs)))
            self.assertEqual(found, Negative(1, 1, str(min(4, mine + theirs))), (mine, theirs))

    def test_the_size_stays(self):
        found = behind(Negative(2, 3, "012340"), Negative(2, 3, "111112"))
        self.assertIsInstance(found, Negative)
        self.assertEqual((found.width, found.height, found.densities), (2, 3, "123442"))
        self.assertEqual(behind(Negative(3, 3, "4" * 9), Negative(3, 3, "4" * 9)), Negative(3, 3, "4" * 9))

    def test_a_negative_behind_itself(self):
        one = Negative(3, 2, "012340")
        self.assertEqual(behind(one, one).densities, "024440")
        self.assertEqual(one.densities, "012340")

    def test_which_lies_ahead_is_all_the_same(self):
        one, other = Negative(4, 2, "01234012"), Negative(4, 2, "21034211")
        self.assertEqual(behind(one, other), behind(other, one))
        self.assertEqual(behind(one, other).densities, "22244223")
        self.assertEqual((one.densities, other.densities), ("01234012", "21034211"))

    def test_unlike_sizes(self):
        for width, height, columns, lines in UNLIKE:
            one = Negative(width, height, "0" * (width * height))
            other = Negative(columns, lines, "0" * (columns * lines))
            self.assert_errors(UnlikeSizes, behind, [(one, other)])
            self.assert_errors(UnlikeSizes, least_behind, [(one, other)])


class LeastBehindTest(Checking):

    def test_each_pair_of_densities(self):
        for mine, theirs in itertools.product("01234", repeat=2):
            one, goal = Negative(1, 1, mine), Negative(1, 1, theirs)
            fitting = [figure for figure in "01234" if behind(one, Negative(1, 1, figure)) == goal]
            self.assertEqual(least_behind(one, goal), fitting[0] if fitting else None, (mine, theirs))

    def test_all_small_negatives(self):
        for mine, theirs in itertools.product(model.all_texts(2), repeat=2):
            one, goal = Negative(1, 2, mine), Negative(1, 2, theirs)
            fitting = [text for text in model.all_texts(2) if behind(one, Negative(1, 2, text)) == goal]
            self.assertEqual(least_behind(one, goal), fitting[0] if fitting else None, (mine, theirs))

    def test_the_densest_goal(self):
        self.assertEqual(least_behind(Negative(3, 3, "012340123"), Negative(3, 3, "4" * 9)), "432104321")

    def test_a_goal_that_is_there_already(self):
        self.assertEqual(least_behind(SHORT, SHORT), "000")

    def test_goals_with_no_negative(self):
        self.assertIsNone(least_behind(Negative(3, 3, "000000001"), Negative(3, 3, "444444440")))
        self.assertIsNone(least_behind(Negative(1, 1, "4"), Negative(1, 1, "3")))


class PairCountTest(Checking):

    def test_each_density(self):
        self.assertEqual([pair_count(Negative(1, 1, figure)) for figure in "01234"], [1, 2, 3, 4, 15])

    def test_against_all_pairs(self):
        made = {}
        for mine, theirs in itertools.product(model.all_texts(2), repeat=2):
            densities = behind(Negative(2, 1, mine), Negative(2, 1, theirs)).densities
            made[densities] = made.get(densities, 0) + 1
        for densities in model.all_texts(2):
            self.assertEqual(pair_count(Negative(2, 1, densities)), made[densities], densities)

    def test_nine_cells(self):
        self.assertEqual(pair_count(Negative(3, 3, "4" * 9)), 15 ** 9)
        self.assertEqual(pair_count(Negative(3, 3, "0" * 9)), 1)
        self.assertEqual(pair_count(Negative(3, 3, "012340123")), 2 * 3 * 4 * 15 * 2 * 3 * 4)


class FadedTest(Checking):

    def test_against_the_slow_model(self):
        for life, density in itertools.product((1, 2, 3, 7), range(5)):
            for ticks in range(17 * life + 2):
                self.assertEqual(faded(life, ticks, density), slow_faded(life, ticks, density), (life, ticks, density))

    def test_the_first_lives(self):
        self.assertEqual([faded(10, ticks, 4) for ticks in (0, 1, 9, 10, 11, 20, 21)], [0, 16, 144, 160, 175, 310, 324])
        self.assertEqual([faded(1, 1, density) for density in range(5)], [256, 128, 64, 32, 16])
        self.assertEqual([faded(1, 2, density) for density in range(5)], [496, 248, 124, 62, 31])

    def test_the_last_life_and_what_is_behind_it(self):
        self.assertEqual([faded(10, ticks, 4) for ticks in (149, 150, 151, 159, 160, 161, 1000)],
                         [1348, 1350, 1351, 1359, 1360, 1360, 1360])
        self.assertEqual([faded(1, ticks, 0) for ticks in (15, 16, 17, MOST)], [135 * 16, 136 * 16, 136 * 16, 136 * 16])

    def test_the_largest_numbers(self):
        self.assertEqual(faded(LIFE, MOST, 0), 136 * 16 * LIFE)
        self.assertEqual(faded(LIFE, MOST, 4), 136 * LIFE)
        self.assertEqual(faded(LIFE, LIFE, 0), 256 * LIFE)
        self.assertEqual(faded(LIFE, LIFE + 1, 0), 256 * LIFE + 240)
        self.assertEqual(faded(LIFE, 16 * LIFE - 1, 3), 136 * 2 * LIFE - 2)
        self.assertEqual(faded(LIFE, 0, 0), 0)

    def test_wrong_arguments(self):
        lives = [(life, 1, 0) for life in (0, -1, LIFE + 1, True, False)]
        ticks = [(1, many, 0) for many in (-1, MOST + 1, True, False)]
        densities = [(1, 1, density) for density in (-1, 5, True, False)]
        self.assert_errors(InvalidNumber, faded, lives + ticks + densities + [(0, -1, 5)])


class TicksUntilTest(Checking):

    def test_against_the_slow_model(self):
        for life, density in itertools.product((1, 2, 5), range(5)):
            had = [slow_faded(life, ticks, density) for ticks in range(16 * life + 1)]
            for light in range(0, had[-1] + 3):
                behind_them = [ticks for ticks, units in enumerate(had) if units >= light]
                expected = behind_them[0] if behind_them else None
                self.assertEqual(ticks_until(life, light, density), expected, (life, light, density))

    def test_no_light_wants_no_ticks(self):
        self.assertEqual([ticks_until(life, 0, density) for life in (1, LIFE) for density in (0, 4)], [0, 0, 0, 0])

    def test_just_in_time_one_less_and_one_more(self):
        self.assertEqual([ticks_until(10, light, 4) for light in (159, 160, 161, 175, 176)], [10, 10, 11, 11, 12])
        self.assertEqual([ticks_until(10, light, 0) for light in (0, 1, 256, 257)], [0, 1, 1, 2])
        self.assertEqual([ticks_until(10, light, 0) for light in (6079, 6080, 6081)], [25, 25, 26])
        self.assertEqual([ticks_until(1, light, 4) for light in (134, 135, 136, 137)], [15, 15, 16, None])
        self.assertEqual([ticks_until(10, light, 4) for light in (1350, 1351, 1359)], [150, 151, 159])
        self.assertEqual([ticks_until(10, light, 4) for light in (1360, 1361)], [160, None])

    def test_light_that_is_never_had(self):
        for density, units in enumerate((16, 8, 4, 2, 1)):
            self.assertEqual(ticks_until(3, 3 * 136 * units, density), 48)
            self.assertIsNone(ticks_until(3, 3 * 136 * units + 1, density))
        self.assertIsNone(ticks_until(1, MOST, 0))

    def test_the_largest_numbers(self):
        self.assertEqual(ticks_until(LIFE, MOST, 0), 4375 * 10 ** 12)
        self.assertEqual(ticks_until(LIFE, 256 * LIFE, 0), LIFE)
        self.assertEqual(ticks_until(LIFE, 256 * LIFE + 1, 0), LIFE + 1)
        self.assertEqual(ticks_until(LIFE, 136 * LIFE, 4), 16 * LIFE)
        self.assertEqual(ticks_until(LIFE, 136 * LIFE - 1, 4), 16 * LIFE - 1)
        self.assertIsNone(ticks_until(LIFE, 136 * LIFE + 1, 4))

    def test_both_agree(self):
        for life, density in itertools.product((10 ** 9 + 7, LIFE), range(5)):
            for light in (1, 12345678901234567, 5 * 10 ** 17 + 3, MOST):
                ticks = ticks_until(life, light, density)
                if ticks is None:
                    self.assertLess(faded(life, MOST, density), light)
                else:
                    self.assertGreaterEqual(faded(life, ticks, density), light)
                    self.assertLess(faded(life, ticks - 1, density), light)

    def test_wrong_arguments(self):
        lives = [(life, 1, 0) for life in (0, -1, LIFE + 1, True, False)]
        light = [(1, units, 0) for units in (-1, MOST + 1, True, False)]
        densities = [(1, 1, density) for density in (-1, 5, True, False)]
        self.assert_errors(InvalidNumber, ticks_until, lives + light + densities + [(0, -1, 5)])
        self.assert_errors(InvalidNumber, ticks_until, [(1, 0, 5), (1, 0, -1), (0, 0, 0)])


if __name__ == "__main__":
    unittest.main()
