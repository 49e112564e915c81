"""What several test files ask of an error."""

import unittest

from maskedprints.errors import InvalidRecipe, InvalidSize, InvalidSteps, InvalidTones

WRONG_SIZES = [(0, 1), (5, 1), (-1, 1), (1, 0), (1, 5), (1, -1), (3, 4), (4, 3), (4, 4), (0, 0), (True, 1), (1, True),
               (False, 1), (1, False)]
WRONG_STEPS = [
    (), (1, 2, 3, 4, 5, 6), (0,), (-1,), (10000,), (0, 5), (5, 10000), (40, 10), (10, 10), (1, 3, 2), (1, 2, 2),
    (True,), (False,), (True, 2), (1, True), (False, 1),
]
# What is no text of tones of three cells, whatever steps a paper has.
WRONG_TONES = [
    "", "20", "2012", "206", "20-", "-201", "20 ", " 20", "2 1", "20\n", "2a1", "2.1", "??", "????", "20\u0661",
    "\uff1201", None, 201, 0, True, (), ("2", "0", "1"), ["2", "0", "1"], (2, 0, 1), b"201",
]


class Checking(unittest.TestCase):

    def assert_index(self, index, call, *given):
        """Assert that a call raises InvalidRecipe with an index."""
        with self.assertRaises(InvalidRecipe) as caught:
            call(*given)
        self.assertEqual(caught.exception.index, index, given)

    def assert_sizes(self, call, *recipes):
        """Assert that a call raises InvalidSize for all sizes that no negative has."""
        for width, height in WRONG_SIZES:
            with self.assertRaises(InvalidSize, msg=(width, height)):
                call(width, height, *recipes)

    def assert_steps(self, call):
        """Assert that a call raises InvalidSteps for all steps that no paper has."""
        for steps in WRONG_STEPS:
            with self.assertRaises(InvalidSteps, msg=steps):
                call(steps)

    def assert_tones(self, call, *others):
        """Assert that a call raises InvalidTones for what is no text of tones, and for others that are none."""
        for tones in WRONG_TONES + list(others):
            with self.assertRaises(InvalidTones, msg=tones):
                call(tones)

    def assert_errors(self, error, call, rows):
        """Assert that a call raises an error for each row of arguments."""
        for given in rows:
            with self.assertRaises(error, msg=given):
                call(*given)
