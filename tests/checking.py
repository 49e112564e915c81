"""What several test files ask of an error."""

import unittest

from maskedprints.errors import InvalidRecipe, InvalidSize

WRONG_SIZES = [(0, 1), (5, 1), (-1, 1), (1, 0), (1, 5), (1, -1), (3, 4), (4, 3), (4, 4), (0, 0), (True, 1), (1, True),
               (False, 1), (1, False)]


class Checking(unittest.TestCase):

    def assert_index(self, index, call, *given):
        """Assert that a call raises InvalidRecipe with an index."""
        with self.assertRaises(InvalidRecipe) as caught:
            call(*given)
        self.assertEqual(caught.exception.index, index, given)

    def assert_sizes(self, call, *recipes):
        """Assert that a call raises InvalidSize for all sizes that no negative has."""
        for width, height in WRONG_SIZES:
            with self.assertRaises(InvalidSize, msg=(width, height)):
                call(width, height, *recipes)
