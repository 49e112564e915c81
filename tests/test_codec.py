"""Point 28 of the document: negatives as codes."""

import itertools
import unittest

from maskedprints.codec import decode_negative, encode_negative
from maskedprints.errors import DecodeError, InvalidNegative
from maskedprints.negatives import Negative
from tests import model
from tests.checking import Checking

NO_INTEGERS = [True, False, None, "1", "", (), (1,), [1], b"1"]


def with_check(values):
    """A list with the checksum of the document's words behind it."""
    check = 11
    for value in values:
        check = (19 * check + value) % 223
    return values + [check]


class CodecCase(Checking):

    def assert_offset(self, offset, values):
        before = list(values)
        with self.assertRaises(DecodeError, msg=values) as caught:
            decode_negative(values)
        self.assertEqual(caught.exception.offset, offset, values)
        self.assertEqual(values, before)

    def assert_wrong_at(self, offset, values, others):
        """Assert that nothing of the others can stand in the place of an item, with or without items behind it."""
        for other in others:
            self.assert_offset(offset, values[:offset] + [other] + values[offset + 1:])
            self.assert_offset(offset, values[:offset] + [other])
            self.assert_offset(offset, values[:offset] + [other] + [None] * 30)


class ExampleTest(CodecCase):

    def test_the_first_example(self):
        values = encode_negative(Negative(2, 1, "01"))
        self.assertEqual(values, [107, 2, 1, 0, 1, 57])
        self.assertEqual(decode_negative(values).densities, "01")

    def test_the_second_example(self):
        self.assert_offset(1, [107, 5])


class EncodeTest(CodecCase):

    def test_items(self):
        self.assertEqual(encode_negative(Negative(1, 1, "0"))[:4], [107, 1, 1, 0])
        self.assertEqual(encode_negative(Negative(3, 2, "012340"))[:-1], [107, 3, 2, 0, 1, 2, 3, 4, 0])
        self.assertEqual(len(encode_negative(Negative(3, 3, "0" * 9))), 13)

    def test_the_checksum(self):
        for text in model.all_texts(3):
            values = encode_negative(Negative(3, 1, text))
            self.assertEqual(values, with_check(values[:-1]))
            self.assertTrue(0 <= values[-1] <= 222)

    def test_the_list_may_be_modified(self):
        negative = Negative(2, 1, "01")
        encode_negative(negative).clear()
        self.assertEqual(encode_negative(negative), [107, 2, 1, 0, 1, 57])


class DecodeTest(CodecCase):

    def test_codes_lead_back(self):
        for width, height in model.sizes():
            for figures in (("01234" * 2), ("43210" * 2), "0" * 9, "4" * 9):
                negative = Negative(width, height, figures[:width * height])
                found = decode_negative(encode_negative(negative))
                self.assertIsInstance(found, Negative)
                self.assertEqual(found, negative)
        for text in model.all_texts(4):
            self.assertEqual(decode_negative(encode_negative(Negative(2, 2, text))), Negative(2, 2, text))

    def test_wrong_items(self):
        values = encode_negative(Negative(2, 2, "0123"))
        self.assert_wrong_at(0, values, [106, 108, 0, -107, 255] + NO_INTEGERS)
        for offset in (1, 2):
            self.assert_wrong_at(offset, values, [0, 5, -1, 255] + NO_INTEGERS)
        for offset in (3, 4, 5, 6):
            self.assert_wrong_at(offset, values, [5, -1, 255] + NO_INTEGERS)
        others = [other for other in range(-1, 256) if other != values[-1]]
        self.assert_wrong_at(7, values, others + [values[-1] + 223, values[-1] - 223] + NO_INTEGERS)

    def test_a_boolean_in_the_place_of_an_equal_item(self):
        checked = {}
        for figures in itertools.product(range(5), repeat=4):
            values = with_check([107, 2, 2, *figures])
            checked.setdefault(values[-1], values)
        for check, truth in [(0, False), (1, True)]:
            self.assertIsInstance(decode_negative(checked[check]), Negative)
            self.assert_offset(7, checked[check][:-1] + [truth])
        self.assert_offset(1, [107, True, 1, 0, 0])
        self.assert_offset(3, [107, 1, 1, False, 0])

    def test_items_missing(self):
        values = encode_negative(Negative(3, 3, "012340123"))
        for many in range(len(values)):
            self.assert_offset(many, values[:many])

    def test_items_too_many(self):
        for width, height in model.sizes():
            values = encode_negative(Negative(width, height, "3" * (width * height)))
            for more in ([0], [values[-1]], [None], [1, 2, 3], [True]):
                self.assert_offset(len(values), values + more)

    def test_a_wrong_checksum_ahead_of_items_too_many(self):
        self.assert_offset(5, [107, 2, 1, 0, 1, 58, 0])

    def test_more_than_nine_cells(self):
        for width, height in [(4, 4), (3, 4), (4, 3)]:
            cells = width * height
            values = with_check([107, width, height] + [2] * cells)
            with self.assertRaises(InvalidNegative) as caught:
                decode_negative(values)
            self.assertEqual(caught.exception.part, "height")
            self.assert_offset(cells + 4, values + [0])
            self.assert_offset(cells + 3, values[:-1] + [(values[-1] + 1) % 223])
            self.assert_offset(cells + 3, values[:-1])
            self.assert_offset(cells + 2, values[:-2] + [5])
            self.assert_offset(3, values[:3])
            self.assert_wrong_at(10, values, [5, -1, True])

    def test_the_list_is_not_kept(self):
        values = encode_negative(Negative(2, 1, "01"))
        negative = decode_negative(values)
        values[3] = 4
        self.assertEqual(negative.densities, "01")


if __name__ == "__main__":
    unittest.main()
