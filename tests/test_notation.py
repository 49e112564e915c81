"""Points 26 and 27 of the document: drawings, and recipes as texts."""

import itertools
import unittest

from maskedprints.errors import InvalidLine, InvalidRecipe, InvalidSize
from maskedprints.negatives import Negative
from maskedprints.notation import open_map, picture, read_recipe, recipe_text
from tests import model
from tests.checking import Checking

SQUARE = Negative(2, 2, "0123")
LARGE = Negative(3, 3, "012340123")
ONCE = ("expose", 1, ())
FLIP = ("flip",)
BAD = ("draw", 0, 1)
# Words that are no numbers of one or two digits without a needless zero.
NO_NUMBERS = ["", "00", "01", "09", "000", "100", "123", "-1", "+1", "-", "1.", "1,", "x", "1x", "x1", "1_", "0x",
              "one", "\u0661", "\u00b2", "\uff11", "1\t", "\t", "1\r", "True", "None"]


class ExampleTest(Checking):

    def test_the_first_example(self):
        negative, recipe = Negative(2, 2, "0123"), (("expose", 5, (0, 2)), ("draw", 5, 2), ("flip",))
        self.assertEqual(picture(negative), "01\n23")
        self.assertEqual(recipe_text(recipe), "expose 5 0 2\ndraw 5 2\nflip")
        self.assertIs(read_recipe(negative, recipe_text(recipe)) == recipe, True)
        self.assertEqual(open_map(2, 1, (("draw", 3, 2), ("flip",), ("expose", 1, (0,)))), "3/0 1/1")

    def test_the_second_example(self):
        with self.assertRaises(InvalidLine) as caught:
            read_recipe(Negative(2, 2, "0123"), "expose 5 2 2")
        self.assertEqual((caught.exception.row, caught.exception.word), (0, 3))


class PictureTest(Checking):

    def test_one_cell(self):
        self.assertEqual(picture(Negative(1, 1, "4")), "4")

    def test_several_rows(self):
        self.assertEqual(picture(LARGE), "012\n340\n123")
        self.assertEqual(picture(Negative(1, 4, "0123")), "0\n1\n2\n3")
        self.assertEqual(picture(Negative(4, 1, "0123")), "0123")
        self.assertEqual(picture(Negative(4, 2, "01234321")), "0123\n4321")
        self.assertEqual(picture(Negative(2, 4, "01234321")), "01\n23\n43\n21")

    def test_the_picture_tells_the_negative(self):
        for width, height in model.sizes():
            negative = Negative(width, height, ("01234" * 2)[:width * height])
            rows = picture(negative).split("\n")
            self.assertEqual(Negative(len(rows[0]), len(rows), "".join(rows)), negative)


class RecipeTextTest(Checking):

    def test_no_deeds(self):
        self.assertEqual(recipe_text(()), "")

    def test_each_deed(self):
        self.assertEqual(recipe_text((ONCE,)), "expose 1")
        self.assertEqual(recipe_text((("expose", 99, (0, 4, 8)),)), "expose 99 0 4 8")
        self.assertEqual(recipe_text((("draw", 10, 99),)), "draw 10 99")
        self.assertEqual(recipe_text((FLIP,)), "flip")

    def test_several_deeds(self):
        self.assertEqual(recipe_text((FLIP, ONCE) * 4), "\n".join(["flip", "expose 1"] * 4))

    def test_the_text_leads_back(self):
        masks = [mask for size in range(10) for mask in itertools.combinations(range(9), size)]
        for mask in masks:
            recipe = (("expose", 1 + len(mask) * 10, mask),)
            self.assertEqual(read_recipe(LARGE, recipe_text(recipe)), recipe)
        for time, pace in itertools.product((1, 9, 10, 50, 99), repeat=2):
            recipe = (FLIP, ("draw", time, pace), ONCE, FLIP, ("draw", pace, time))
            self.assertEqual(read_recipe(LARGE, recipe_text(recipe)), recipe)
        for recipe in [(), (FLIP,) * 8, (ONCE,) * 8]:
            self.assertEqual(read_recipe(SQUARE, recipe_text(recipe)), recipe)


class ReadRecipeTest(Checking):

    def assert_line(self, row, word, text, negative=SQUARE):
        with self.assertRaises(InvalidLine, msg=repr(text)) as caught:
            read_recipe(negative, text)
        self.assertEqual((caught.exception.row, caught.exception.word), (row, word), repr(text))

    def test_right_texts(self):
        self.assertEqual(read_recipe(SQUARE, ""), ())
        self.assertEqual(read_recipe(SQUARE, "flip"), (FLIP,))
        self.assertEqual(read_recipe(SQUARE, "expose 1\nflip\nexpose 99 0 1 2 3"),
                         (ONCE, FLIP, ("expose", 99, (0, 1, 2, 3))))
        self.assertEqual(read_recipe(SQUARE, "draw 1 99\ndraw 99 1"), (("draw", 1, 99), ("draw", 99, 1)))
        self.assertEqual(read_recipe(Negative(1, 1, "0"), "expose 10 0"), (("expose", 10, (0,)),))
        self.assertEqual(read_recipe(SQUARE, "\n".join(["flip"] * 8)), (FLIP,) * 8)

    def test_another_first_word(self):
        for word in ["", "x", "Flip", "FLIP", "flips", "exposed", "drawn", "fresh", "show", "repeat", "end", "1",
                     "flip\t", "\tflip", "flip\r", "flip,"]:
            if word:
                self.assert_line(0, 0, word)
            self.assert_line(1, 0, "flip\n" + word)
            self.assert_line(1, 0, "flip\n" + word + " 1 2\nx")

    def test_blanks(self):
        self.assert_line(0, 0, " ")
        self.assert_line(0, 0, " flip")
        self.assert_line(0, 1, "flip ")
        self.assert_line(0, 1, "expose  5")
        self.assert_line(0, 2, "expose 5 ")
        self.assert_line(0, 2, "expose 5  1")
        self.assert_line(0, 3, "expose 5 1 ")
        self.assert_line(0, 2, "draw 5 ")
        self.assert_line(0, 3, "draw 5 2 ")
        self.assert_line(0, 2, "draw 5  2")
        self.assert_line(0, 1, "draw ")

    def test_empty_rows(self):
        self.assert_line(0, 0, "\n")
        self.assert_line(0, 0, "\nflip")
        self.assert_line(1, 0, "flip\n")
        self.assert_line(1, 0, "flip\n\nflip")
        self.assert_line(1, 0, "flip\n\n")

    def test_other_line_ends(self):
        self.assert_line(0, 0, "flip\r\nflip")
        self.assert_line(0, 0, "flip\rflip")
        self.assert_line(0, 0, "flip\u2028flip")
        self.assert_line(0, 1, "expose 1\r\nflip")

    def test_words_too_many(self):
        self.assert_line(0, 1, "flip 1")
        self.assert_line(0, 1, "flip flip")
        self.assert_line(0, 3, "draw 5 2 1")
        self.assert_line(0, 3, "draw 5 2 1 x")
        self.assert_line(2, 1, "flip\nexpose 1\nflip x")

    def test_words_missing(self):
        self.assert_line(0, 1, "expose")
        self.assert_line(0, 1, "draw")
        self.assert_line(0, 2, "draw 5")
        self.assert_line(1, 2, "flip\ndraw 99\nx")

    def test_words_that_are_no_numbers(self):
        for word in NO_NUMBERS:
            self.assert_line(0, 1, "expose " + word)
            self.assert_line(0, 2, "expose 5 " + word)
            self.assert_line(0, 4, "expose 5 0 1 " + word)
            self.assert_line(0, 1, "draw " + word + " 5")
            self.assert_line(0, 2, "draw 5 " + word)
            self.assert_line(0, 2, "draw 5 " + word + " 1")

    def test_times_and_paces_0(self):
        self.assert_line(0, 1, "expose 0")
        self.assert_line(0, 1, "expose 0 1")
        self.assert_line(0, 1, "draw 0 1")
        self.assert_line(0, 2, "draw 1 0")
        self.assert_line(0, 1, "draw 0 0")
        self.assert_line(0, 1, "draw 0")

    def test_cells_that_there_are_not(self):
        self.assert_line(0, 2, "expose 5 4")
        self.assert_line(0, 3, "expose 5 0 4")
        self.assert_line(0, 2, "expose 5 99")
        self.assert_line(0, 2, "expose 5 1", Negative(1, 1, "0"))
        self.assert_line(0, 2, "expose 5 9", LARGE)
        self.assert_line(0, 11, "expose 5 0 1 2 3 4 5 6 7 8 9", LARGE)
        self.assertEqual(read_recipe(LARGE, "expose 5 8"), (("expose", 5, (8,)),))

    def test_cells_that_do_not_ascend(self):
        self.assert_line(0, 3, "expose 5 1 0")
        self.assert_line(0, 3, "expose 5 0 0")
        self.assert_line(0, 4, "expose 5 0 2 1 9")
        self.assert_line(0, 3, "expose 5 3 3 x")
        self.assert_line(0, 5, "expose 5 0 1 3 2")

    def test_the_ninth_row(self):
        self.assert_line(8, 0, "\n".join(["flip"] * 9))
        self.assert_line(8, 0, "\n".join(["flip"] * 20))
        self.assert_line(8, 0, "\n".join(["flip"] * 8) + "\n")
        self.assert_line(8, 0, "\n".join(["expose 1"] * 8 + ["draw 5 0"]))
        self.assert_line(7, 1, "\n".join(["flip"] * 7 + ["draw", "flip"]))

    def test_which_of_several_faults_is_the_first(self):
        self.assert_line(0, 1, "expose x 9 9\ny")
        self.assert_line(0, 2, "expose 5 9 x")
        self.assert_line(0, 0, "x 0\ny")
        self.assert_line(1, 1, "expose 5\ndraw 0 x 1\nflip 1")
        self.assert_line(0, 3, "draw 5 2 1\nflip 1")
        self.assert_line(1, 2, "flip\ndraw 5 00 7\nx")

    def test_repeated_calls_agree(self):
        text = "expose 5 0\nflip"
        self.assertEqual(read_recipe(SQUARE, text), read_recipe(SQUARE, text))


class OpenMapTest(Checking):

    def test_no_deeds(self):
        self.assertEqual(open_map(1, 1, ()), "0/0")
        self.assertEqual(open_map(2, 2, (FLIP,)), "0/0 0/0\n0/0 0/0")

    def test_flips(self):
        recipe = (ONCE, FLIP, ("expose", 20, (1,)), FLIP, ("expose", 75, (0,)))
        self.assertEqual(open_map(2, 1, recipe), "1/20 76/0")
        self.assertEqual(open_map(1, 1, (FLIP, ONCE)), "0/1")

    def test_draws_that_leave_columns_less_than_nothing(self):
        self.assertEqual(open_map(4, 1, (("draw", 5, 2),)), "5/0 3/0 1/0 0/0")
        self.assertEqual(open_map(3, 1, (("draw", 1, 99), FLIP, ("draw", 99, 50))), "1/99 0/49 0/0")

    def test_several_rows(self):
        recipe = (("expose", 3, (0, 3)), FLIP, ("draw", 9, 4))
        self.assertEqual(open_map(2, 3, recipe), "0/9 3/5\n3/9 0/5\n3/9 3/5")
        self.assertEqual(open_map(3, 2, recipe), "0/9 3/5 3/1\n0/9 3/5 3/1")
        self.assertEqual(open_map(3, 3, (("expose", 99, (4,)),) * 8),
                         "792/0 792/0 792/0\n792/0 0/0 792/0\n792/0 792/0 792/0")

    def test_wrong_arguments(self):
        self.assert_sizes(open_map, ())
        self.assert_index(1, open_map, 2, 1, (ONCE, BAD))
        self.assert_index(0, open_map, 2, 1, (("expose", 1, (2,)),))
        self.assert_index(8, open_map, 2, 1, (ONCE,) * 9)

    def test_the_order_of_the_errors(self):
        self.assert_errors(InvalidSize, open_map, [(4, 4, (BAD,)), (0, 1, (ONCE,) * 9)])
        self.assert_errors(InvalidRecipe, open_map, [(1, 1, (BAD,))])


if __name__ == "__main__":
    unittest.main()
