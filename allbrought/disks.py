"""Disks, records, and the entries that are kept on them."""

from allbrought.bookrows import entry_at
from allbrought.books import Book, add_as_taken
from allbrought.errors import BadRow, NoBlocks, NoCut, NoNumber, NoRow
from allbrought.kinds import is_number_below, is_tuple_of
from allbrought.rows import is_row, whole, whole_at


class Disk:
    """Blocks, one behind another; of those from some number on each waits, and can be lost."""

    def __init__(self):
        self._blocks = []
        self._synced = 0

    def write(self, row):
        """Put a block more behind the others, that waits; return its number."""
        if not is_row(row):
            raise NoRow()
        self._blocks.append(row)
        return len(self._blocks) - 1

    def sync(self):
        """Have none wait any more; return how many did."""
        many = len(self._blocks) - self._synced
        self._synced = len(self._blocks)
        return many

    def blocks(self):
        """The list of the rows of all blocks."""
        return list(self._blocks)

    def synced(self):
        """How many blocks, from the first on, do not wait."""
        return self._synced

    def cut(self, kept):
        """Cut the power: of each block that waits just so many of its first bytes are there."""
        waiting = self._blocks[self._synced:]
        if not is_tuple_of(kept, len(waiting)):
            raise NoCut()
        if not all([is_number_below(many, len(row) + 1) for many, row in zip(kept, waiting)]):
            raise NoCut()
        self._blocks = self._blocks[:self._synced] + [row[:many] for many, row in zip(kept, waiting)]
        self._synced = len(self._blocks)

    def drop(self, number):
        """Let go of the blocks from this number on."""
        if not is_number_below(number, len(self._blocks) + 1):
            raise NoNumber()
        self._blocks = self._blocks[:number]
        self._synced = min(self._synced, number)

    def copy(self):
        """Another disk with these blocks, that goes on apart."""
        other = Disk()
        other._blocks = list(self._blocks)
        other._synced = self._synced
        return other


def record(row):
    """The record of a row: how many bytes come, and these."""
    if not is_row(row):
        raise NoRow()
    return whole(len(row)) + row


def read_record(row):
    """The contents of a record, None for what is none."""
    if not is_row(row):
        raise NoRow()
    try:
        many, at = whole_at(row, 0)
    except BadRow:
        return None
    return row[at:] if len(row) - at == many else None


def kept_entries(floor, blocks):
    """The list of the entries of which blocks are the records, from the first on, as far as a book takes them."""
    book = Book(floor)
    if not isinstance(blocks, (list, tuple)) or not all([is_row(row) for row in blocks]):
        raise NoBlocks()
    for row in blocks:
        entry = _entry_in(row)
        # what is no entry is taken by no book
        if add_as_taken(book, [entry]) == 0:
            break
    return book.entries()


def _entry_in(row):
    """The entry of which a row is the record, None for what is none."""
    contents = read_record(row)
    if contents is None:
        return None
    try:
        entry, behind = entry_at(contents, 0)
    except BadRow:
        return None
    return entry if behind == len(contents) else None
