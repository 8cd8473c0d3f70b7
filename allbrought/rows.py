"""Rows of bytes, and the numbers that stand in them."""

from allbrought.errors import BadRow, NoNumber, NoPlace, NoRow
from allbrought.kinds import is_int, is_number_below

MOST_BYTES = 300000
BYTES = 256
# 2 ** 64, 2 ** 62
WHOLES = 18446744073709551616
MOST_SIGNED = 4611686018427387904
MOST_FIGURES = 10


def is_row(thing):
    """Whether a thing is a row."""
    if not isinstance(thing, tuple) or len(thing) > MOST_BYTES:
        return False
    # rows can be long: so each byte is looked at on the spot, without a call for each
    return all([isinstance(item, int) and not isinstance(item, bool) and 0 <= item < BYTES for item in thing])


def whole(number):
    """The row of a number: its figures to the base 128, the last one first."""
    if not is_number_below(number, WHOLES):
        raise NoNumber()
    figures = []
    while number >= 128:
        figures.append(128 + number % 128)
        number //= 128
    figures.append(number)
    return tuple(figures)


def signed(number):
    """The row of an integer from -2 ** 62 to 2 ** 62."""
    if not is_int(number) or not -MOST_SIGNED <= number <= MOST_SIGNED:
        raise NoNumber()
    return whole(2 * number if number >= 0 else -2 * number - 1)


def check_place(row, at):
    """See to it that a thing is a row, and another one a place of it, perhaps the one behind its last byte."""
    if not is_row(row):
        raise NoRow()
    if not is_number_below(at, len(row) + 1):
        raise NoPlace()


def read_whole(row, at):
    """The pair (number, place behind it) of the number that stands at a place of a row."""
    check_place(row, at)
    return whole_at(row, at)


def whole_at(row, at):
    """As read_whole, of what is known to be a row and a place of it."""
    number = 0
    worth = 1
    for many, byte in enumerate(row[at:at + MOST_FIGURES]):
        number += byte % 128 * worth
        worth *= 128
        if byte < 128:
            if number >= WHOLES or (byte == 0 and many > 0):
                raise BadRow(at)
            return (number, at + many + 1)
    raise BadRow(at)


def read_signed(row, at):
    """The pair (integer, place behind it) of the row by signed that stands at a place of a row."""
    check_place(row, at)
    number, behind = whole_at(row, at)
    if number > 2 * MOST_SIGNED:
        raise BadRow(at)
    half = (number + 1) // 2
    return (half if number % 2 == 0 else -half, behind)
