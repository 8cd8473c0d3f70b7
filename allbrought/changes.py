"""Changes, by which one row becomes another."""

from allbrought.errors import BadChange, BadRow, NoRow
from allbrought.rows import is_row, whole, whole_at

KEEP = 0
LEAVE_OUT = 1
PUT_IN = 2


def _check_rows(rows):
    for row in rows:
        if not is_row(row):
            raise NoRow()


def changed(one, parts):
    """What a row becomes by a change, a row of parts."""
    _check_rows((one, parts))
    made = []
    taken = 0
    at = 0
    while at < len(parts):
        kind, many, behind = _part_at(parts, at)
        if kind == PUT_IN:
            made.extend(parts[behind - many:behind])
        elif many > len(one) - taken:
            raise BadChange(at)
        else:
            if kind == KEEP:
                made.extend(one[taken:taken + many])
            taken += many
        at = behind
    return tuple(made)


def _part_at(parts, at):
    """The kind of the part that stands at a place, of how many bytes it speaks, and the place behind it."""
    try:
        number, behind = whole_at(parts, at)
    except BadRow:
        raise BadChange(at) from None
    kind = number % 3
    many = number // 3
    if kind == PUT_IN:
        behind += many
    if many == 0 or behind > len(parts):
        raise BadChange(at)
    return kind, many, behind


def change(one, other):
    """A change by which the one row becomes the other: what both begin and end with is kept."""
    _check_rows((one, other))
    begin = _many_alike(one, other)
    # what is kept as a beginning is not kept as an end once more
    end = _many_alike(one[begin:][::-1], other[begin:][::-1])
    fresh = other[begin:len(other) - end]
    parts = _part(KEEP, begin)
    if end > 0:
        parts += _part(LEAVE_OUT, len(one) - begin - end)
    return parts + _part(PUT_IN, len(fresh)) + fresh + _part(KEEP, end)


def _part(kind, many):
    """The row of a part that speaks of so many bytes, without what it puts in; () for none."""
    return whole(3 * many + kind) if many > 0 else ()


def _many_alike(one, other):
    """How many bytes both rows begin with."""
    many = 0
    while many < min(len(one), len(other)) and one[many] == other[many]:
        many += 1
    return many


def is_change(one, other, thing):
    """Whether a thing is a change by which the one row becomes the other."""
    _check_rows((one, other))
    try:
        return changed(one, thing) == other
    except (NoRow, BadChange):
        return False
