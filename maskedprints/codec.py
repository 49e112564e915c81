"""Negatives as codes, lists of integers from 0 to 255."""

from maskedprints.basics import DENSEST, MOST_SIDE, is_number
from maskedprints.errors import DecodeError
from maskedprints.negatives import Negative

FIRST_ITEM = 107
# The first item, the width and the height stand ahead of the densities.
AHEAD = 3
CHECK_START = 11
CHECK_FACTOR = 19
CHECK_MODULUS = 223


def encode_negative(negative):
    """The code of a negative."""
    values = [FIRST_ITEM, negative.width, negative.height] + [int(figure) for figure in negative.densities]
    return values + [checksum(values)]


def decode_negative(values):
    """The negative of a code."""
    check_item(values, 0, FIRST_ITEM, FIRST_ITEM)
    check_item(values, 1, 1, MOST_SIDE)
    check_item(values, 2, 1, MOST_SIDE)
    width, height = values[1], values[2]
    end = AHEAD + width * height
    for offset in range(AHEAD, end):
        check_item(values, offset, 0, DENSEST)
    wanted = checksum(values[:end])
    check_item(values, end, wanted, wanted)
    if len(values) > end + 1:
        raise DecodeError(end + 1)
    return Negative(width, height, "".join([str(density) for density in values[AHEAD:end]]))


def checksum(values):
    """The checksum of all items ahead of it."""
    check = CHECK_START
    for value in values:
        check = (CHECK_FACTOR * check + value) % CHECK_MODULUS
    return check


def check_item(values, offset, least, most):
    """Raise DecodeError if an item is missing, or is no integer in a range."""
    if offset >= len(values) or not is_number(values[offset], least, most):
        raise DecodeError(offset)
