"""Marks of rows: numbers by which unlike rows are told apart."""

from allbrought.errors import NoNumber, NoRow
from allbrought.kinds import is_number_below
from allbrought.rows import is_row

FACTOR = 1000003
# 2 ** 61 - 1
MARKS = 2305843009213693951


def mark(row):
    """The mark of a row."""
    return mark_behind(1, row)


def mark_behind(ahead, row):
    """The mark of a row behind what has this mark ahead of it."""
    if not is_number_below(ahead, MARKS):
        raise NoNumber()
    if not is_row(row):
        raise NoRow()
    for byte in row:
        ahead = (FACTOR * ahead + byte + 1) % MARKS
    return ahead
