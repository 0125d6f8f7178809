"""Rows of bytes: numbers as four bytes, and the mark of a row."""

from firstwrong.errors import BadBytes, BadNumber
from firstwrong.kinds import is_byte_row, is_number_in

START = 2166136261
FACTOR = 16777619


def low_bytes(number, many):
    """So many bytes of a number, the lowest first."""
    return tuple([(number >> (8 * place)) & 255 for place in range(many)])


def four_bytes(number):
    """The four bytes of a number, the lowest first."""
    if not is_number_in(number, 0, 2 ** 32 - 1):
        raise BadNumber("number")
    return low_bytes(number, 4)


def mark_of(thing):
    """The mark of a row of bytes."""
    if not is_byte_row(thing):
        raise BadBytes(None)
    mark = START
    for byte in thing:
        mark = ((mark ^ byte) * FACTOR) & (2 ** 32 - 1)
    return mark
