"""Hosts and robots that come back from their disks."""

from allbrought.bookrows import entries_at, entries_row, entry_row, short_at, shorts_at
from allbrought.books import Book, book_of
from allbrought.changes import change, changed
from allbrought.disks import Disk, kept_entries, read_record, record
from allbrought.entries import is_formed
from allbrought.errors import BadChange, BadRow, NoDisk, NoNumber, NoPast, NoRobot, NoRow, NotYet, OtherMatch
from allbrought.floors import check_well_formed, homes
from allbrought.hosts import Host
from allbrought.kinds import SHORTS, is_number_below, is_short, is_tuple_of
from allbrought.robots import Robot, grows_to, is_past, past_of_new
from allbrought.rows import is_row, whole, whole_at
from allbrought.texts import floor_mark

HOST_BEGIN = 0
ROBOT_BEGIN = 4
LEARNT = 5


def _begin_row(byte, numbers):
    row = [byte]
    for number in numbers:
        row.extend(whole(number))
    return tuple(row)


def _has_begin(disk, begin):
    """Whether the first block of a disk is the record of this begin, a byte and some numbers."""
    blocks = disk.blocks()
    contents = read_record(blocks[0]) if blocks else None
    if contents is None or contents[:1] != begin[:1]:
        return False
    many = _many_numbers(begin)
    if many != _many_numbers(contents):
        return False
    if contents != begin:
        raise OtherMatch()
    return True


def _many_numbers(row):
    """How many numbers stand behind the first byte of a row, None if something else stands there."""
    at = 1
    many = 0
    while at < len(row):
        try:
            _, at = whole_at(row, at)
        except BadRow:
            return None
        many += 1
    return many


def _begin_anew(disk, begin):
    disk.drop(0)
    disk.write(record(begin))


class SavedHost(Host):
    """A host whose book lasts: what it tells of it stands on its disk ahead of that."""

    def __init__(self, floor, match, disk):
        check_well_formed(floor)
        if not is_short(match):
            raise NoNumber()
        if not isinstance(disk, Disk):
            raise NoDisk()
        begin = _begin_row(HOST_BEGIN, (match, floor_mark(floor)))
        entries = []
        if _has_begin(disk, begin):
            entries = kept_entries(floor, disk.blocks()[1:])
            disk.drop(1 + len(entries))
        else:
            _begin_anew(disk, begin)
        disk.sync()
        super().__init__(floor, match, book_of(floor, entries))
        self._disk = disk
        self._many_kept = len(entries)

    def book(self):
        """A copy of the book."""
        return super().book()

    def add(self, entry):
        """Put one more entry behind the others; return its number."""
        return super().add(entry)

    def plan(self):
        """The plan of the book."""
        return super().plan()

    def counts(self):
        """The tuple, for each robot, of how many of its steps are said to be done."""
        return super().counts()

    def left(self):
        """How many steps of the plan are not said to be done."""
        return super().left()

    def hear(self, thing):
        """Hear a letter, as a Host."""
        return super().hear(thing)

    def known(self):
        """The ascending tuple of the robots that were heard of."""
        return super().known()

    def letter(self, robot):
        """The row of a telling to a known robot; all that it can tell of the book lasts ahead of it."""
        row = super().letter(robot)
        self.store()
        return row

    def store(self):
        """Have all entries last; return how many blocks were written."""
        entries = self._book.entries()[self._many_kept:]
        for entry in entries:
            self._disk.write(record(entry_row(entry)))
        self._disk.sync()
        self._many_kept += len(entries)
        return len(entries)


def past_row(floor, past):
    """The row of a past, by its form."""
    if not _is_past_by_form(floor, past):
        raise NoPast()
    entries, counts, done, begun = past
    row = list(entries_row(entries))
    for number in counts + (done,):
        row.extend(whole(number))
    row.append(1 if begun else 0)
    return tuple(row)


def _is_past_by_form(floor, thing):
    if not is_tuple_of(thing, 4):
        return False
    entries, counts, done, begun = thing
    return (
        isinstance(entries, tuple)
        and all([is_formed(entry, SHORTS, SHORTS) for entry in entries])
        and is_tuple_of(counts, len(homes(floor)))
        and all([is_short(count) for count in counts])
        and is_short(done)
        and isinstance(begun, bool)
    )


def read_past(floor, row):
    """The past of which this is the row, None for what is none."""
    if not is_row(row):
        raise NoRow()
    try:
        entries, at = entries_at(row, 0)
        counts, at = shorts_at(row, at, len(homes(floor)))
        done, at = short_at(row, at)
    except BadRow:
        return None
    if row[at:] not in ((0,), (1,)):
        return None
    return (tuple(entries), counts, done, row[at] == 1)


def _row_behind(block, last, row):
    """The past's row to which a block leads from the one ahead, None if it is no learnt row that follows block last."""
    contents = read_record(block)
    head = _begin_row(LEARNT, (last,))
    if contents is None or contents[:len(head)] != head:
        return None
    try:
        then = changed(row, contents[len(head):])
    except BadChange:
        return None
    return then if is_row(then) else None


def _led_to(floor, number, blocks):
    """The past to which the blocks behind the begin lead a robot, its row, and how many blocks are right."""
    past = past_of_new(floor)
    row = past_row(floor, past)
    book = Book(floor)
    many = 1
    while many < len(blocks):
        then_row = _row_behind(blocks[many], many - 1, row)
        then = None if then_row is None else read_past(floor, then_row)
        # None, for a row of none, is no past, too
        if not is_past(floor, number, then):
            break
        entries = tuple(book.entries())
        # one book grows from past to past, as a new one takes long to lay out
        if then[0][:len(entries)] != entries:
            book = Book(floor)
        if not grows_to(book, number, then):
            break
        past, row = then, then_row
        many += 1
    return past, row, many


class SavedRobot(Robot):
    """A robot whose past lasts: each step stands on its disk ahead of it, and what it says that it heard."""

    def __init__(self, floor, match, number, disk, eye):
        check_well_formed(floor)
        if not is_short(match):
            raise NoNumber()
        if not is_number_below(number, len(homes(floor))):
            raise NoRobot()
        if not isinstance(disk, Disk):
            raise NoDisk()
        begin = _begin_row(ROBOT_BEGIN, (match, floor_mark(floor), number))
        has_begin = _has_begin(disk, begin)
        past, row, many = _led_to(floor, number, disk.blocks() if has_begin else [])
        # an eye that is none is told ahead of any mending of the disk
        super().__init__(floor, match, number, past, eye)
        if has_begin:
            disk.drop(many)
        else:
            _begin_anew(disk, begin)
        disk.sync()
        self._disk = disk
        # the past's row that the disk tells, and the number of the block of the last learnt row, 0 without
        self._row = row
        self._last = many - 1

    def _learn(self, row):
        """Write the learnt row that leads to this past's row."""
        head = _begin_row(LEARNT, (self._last,))
        self._last = self._disk.write(record(head + change(self._row, row)))
        self._row = row

    def book(self):
        """A copy of the book of the entries that it heard."""
        return super().book()

    def plan(self):
        """The plan of what it heard."""
        return super().plan()

    def past(self):
        """The tuple (entries, counts, done, begun) of all that it knows."""
        return super().past()

    def done(self):
        """How many of its steps are done."""
        return super().done()

    def counts(self):
        """The tuple, for each robot, of how many of its steps are heard to be done, its own being done."""
        return super().counts()

    def step(self):
        """The next step of its plan, None if there is none."""
        return super().step()

    def lacks(self):
        """The ascending tuple of what the next step hangs on and is not heard to be done, None without a step."""
        return super().lacks()

    def may(self):
        """Whether it may begin its next step."""
        return super().may()

    def begin(self):
        """Begin the next step; that it is begun lasts ahead of it."""
        if not self.may():
            raise NotYet()
        entries, counts, done, _ = self.past()
        self._learn(past_row(self._floor, (entries, counts, done, True)))
        self._disk.sync()
        super().begin()

    def end(self):
        """Have the step that is begun done; that it is done waits."""
        super().end()
        self._learn(past_row(self._floor, self.past()))

    def cells(self):
        """The ascending tuple of the cells in which its body can be."""
        return super().cells()

    def load(self):
        """The number of the order whose load its body has, None without."""
        return super().load()

    def hear(self, thing):
        """Hear a letter, as a Robot."""
        return super().hear(thing)

    def say(self):
        """The row of its letter; all that it says lasts ahead of it."""
        self.store()
        return super().say()

    def store(self):
        """Have its past last; whether a block was written."""
        row = past_row(self._floor, self.past())
        is_new = row != self._row
        if is_new:
            self._learn(row)
        self._disk.sync()
        return is_new
