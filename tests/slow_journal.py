"""The document's words on the journal of a robot, written apart from the package."""

from tests import slow, slow_rows
from tests.slow_robot import is_taken, laid


def record(contents):
    return slow_rows.whole(len(contents)) + tuple(contents)


def contents_of(row):
    """What stands in a record, None for what is none."""
    read = slow_rows.number_at(row, 0)
    return row[read[1]:] if read is not None and read[0] == len(row) - read[1] else None


def begin(floor, match, number):
    signs = tuple(map(ord, "".join(row + "\n" for row in floor.rows)))
    return record((4,) + slow_rows.wholes(match, slow_rows.mark(signs), number))


def past_row(past):
    entries, counts, done, begun = past
    return slow_rows.entries(entries) + slow_rows.wholes(*counts, done) + ((1,) if begun else (0,))


def read_past(floor, row):
    robots = len(slow.cells_with(floor, "H"))
    read = slow_rows.read_entries(row, 0)
    if isinstance(read, int):
        return None
    numbers = slow_rows.read_numbers(row, read[1], robots + 1, 2 ** 32)
    if isinstance(numbers, int) or row[numbers[1]:] not in ((0,), (1,)):
        return None
    return tuple(read[0]), tuple(numbers[0][:-1]), numbers[0][-1], row[-1] == 1


def can_have(floor, number, past):
    entries, counts, done, begun = past
    for many, entry in enumerate(entries):
        if not is_taken(floor, entries[:many], entry):
            return False
    return counts[number] == done and done + begun <= len(laid(floor, entries)[1][number])


def learnt(last, ahead, now):
    """A learnt row, by a change that leaves all out and puts all in."""
    leave = slow_rows.whole(3 * len(ahead) + 1)
    return (5,) + slow_rows.whole(last) + leave + slow_rows.whole(3 * len(now) + 2) + now


def led_to(floor, number, blocks):
    """The past to which the blocks behind the begin lead, and how many blocks are right, the begin counted."""
    past = ((), (0,) * len(slow.cells_with(floor, "H")), 0, False)
    right = 1
    for block in blocks[1:]:
        contents = contents_of(block)
        if contents is None or contents[:1] != (5,):
            break
        follows = slow_rows.number_at(contents, 1)
        if follows is None or follows[0] != right - 1:
            break
        ahead = past_row(past)
        parts = slow_rows.parts_of(ahead, contents[follows[1]:])
        now = None if isinstance(parts, int) else read_past(floor, slow_rows.become(ahead, parts))
        if now is None or not can_have(floor, number, now):
            break
        past = now
        right += 1
    return past, right
