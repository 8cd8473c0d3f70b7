"""Rows of entries and of books."""

from allbrought.books import book_of
from allbrought.entries import MOST_PAIRS, is_formed
from allbrought.errors import BadRow, NoEntry, NoRow
from allbrought.kinds import SHORTS
from allbrought.rows import check_place, is_row, whole, whole_at

# the word of a byte stands at its place
WORDS = (None, "orders", "out", "in")
ORDERS = 1


def entry_row(entry):
    """The row of an entry."""
    if not is_formed(entry, SHORTS, SHORTS):
        raise NoEntry()
    word, what = entry
    row = [WORDS.index(word)]
    if word != "orders":
        row.extend(whole(what))
        return tuple(row)
    row.extend(whole(len(what)))
    for one, other in what:
        row.extend(whole(one) + whole(other))
    return tuple(row)


def read_entry(row, at):
    """The pair (entry, place behind it) of the entry that stands at a place of a row."""
    check_place(row, at)
    return entry_at(row, at)


def entry_at(row, at):
    """As read_entry, of what is known to be a row and a place of it."""
    if at == len(row) or not 1 <= row[at] < len(WORDS):
        raise BadRow(at)
    if row[at] != ORDERS:
        robot, behind = short_at(row, at + 1)
        return ((WORDS[row[at]], robot), behind)
    many, behind = whole_at(row, at + 1)
    if not 1 <= many <= MOST_PAIRS:
        raise BadRow(at + 1)
    numbers, behind = shorts_at(row, behind, 2 * many)
    return (("orders", tuple(zip(numbers[::2], numbers[1::2]))), behind)


def short_at(row, at):
    """The pair (number, place behind it) of a number below 2 ** 32 at a place of a row."""
    number, behind = whole_at(row, at)
    if number >= SHORTS:
        raise BadRow(at)
    return (number, behind)


def shorts_at(row, at, many):
    """The pair (tuple of numbers, place behind them) of so many numbers below 2 ** 32 from a place of a row on."""
    numbers = []
    while len(numbers) < many:
        number, at = short_at(row, at)
        numbers.append(number)
    return (tuple(numbers), at)


def entries_at(row, at):
    """The pair (list of entries, place behind them) of how many there are, and their rows, from a place of a row on."""
    many, at = whole_at(row, at)
    entries = []
    while len(entries) < many:
        entry, at = entry_at(row, at)
        entries.append(entry)
    return (entries, at)


def entries_row(entries):
    """The row of how many entries there are, and their rows."""
    row = list(whole(len(entries)))
    for entry in entries:
        row.extend(entry_row(entry))
    return tuple(row)


def book_row(book):
    """The row of the entries of a book."""
    return entries_row(book.entries())


def read_book(floor, row):
    """The book of the floor of which this is the row."""
    if not is_row(row):
        raise NoRow()
    entries, behind = entries_at(row, 0)
    if behind < len(row):
        raise BadRow(behind)
    return book_of(floor, entries)
