"""Letters between robots and their host."""

from allbrought.bookrows import entries_at, entries_row, short_at, shorts_at
from allbrought.entries import is_formed
from allbrought.errors import BadRow, NoLetter, NoNumber, NoRow
from allbrought.floors import homes
from allbrought.kinds import is_number_below, is_short, is_tuple_of
from allbrought.marks import mark
from allbrought.rows import is_row, whole

SAYING = 1
TELLING = 2
SEAL = 4
MOST_TOLD = 60
# numbers behind the match are below this one
LIMIT = 100000


def sealed(row):
    """A row with its seal behind it."""
    return row + _seal(row)


def _seal(row):
    # what is no row has no mark: so it is told here
    number = mark(row)
    return tuple([(number >> (8 * place)) & 255 for place in range(SEAL)])


def unsealed(row):
    """What is ahead of the seal of a row, None if it ends in none."""
    if not is_row(row):
        raise NoRow()
    ahead = row[:-SEAL]
    return ahead if row[-SEAL:] == _seal(ahead) else None


def read_letter(floor, match, thing):
    """What a letter of this match says, None for any other thing."""
    if not is_short(match):
        raise NoNumber()
    row = unsealed(thing) if is_row(thing) else None
    if row is None:
        return None
    try:
        letter = _letter_in(floor, match, row)
    except BadRow:
        return None
    return letter if is_letter(floor, letter) else None


def _letter_in(floor, match, row):
    """What the row of a letter without its seal says, None for one of another kind or match, or too long a one."""
    if row[:1] not in ((SAYING,), (TELLING,)):
        return None
    found, at = short_at(row, 1)
    many = len(homes(floor))
    if row[0] == SAYING:
        numbers, at = shorts_at(row, at, 3 + many)
        letter = ("say",) + numbers[:3] + (numbers[3:],)
    else:
        numbers, at = shorts_at(row, at, many + 1)
        entries, at = entries_at(row, at)
        letter = ("tell", numbers[:-1], numbers[-1], tuple(entries))
    return letter if found == match and at == len(row) else None


def is_letter(floor, thing):
    """Whether a thing is the tuple of a saying or a telling of this floor."""
    return _is_saying(floor, thing) or _is_telling(floor, thing)


def _is_saying(floor, thing):
    if not is_tuple_of(thing, 5) or thing[:1] != ("say",):
        return False
    _, robot, heard, done, counts = thing
    return (
        is_number_below(robot, len(homes(floor)))
        and is_number_below(heard, LIMIT)
        and _are_counts(floor, counts)
        and is_number_below(done, LIMIT)
        and counts[robot] == done
    )


def _is_telling(floor, thing):
    if not is_tuple_of(thing, 4) or thing[:1] != ("tell",):
        return False
    _, counts, first, entries = thing
    if not isinstance(entries, tuple) or len(entries) > MOST_TOLD:
        return False
    return (
        _are_counts(floor, counts)
        and is_number_below(first, LIMIT)
        and all([is_formed(entry, LIMIT, LIMIT) for entry in entries])
    )


def _are_counts(floor, thing):
    return is_tuple_of(thing, len(homes(floor))) and all([is_number_below(count, LIMIT) for count in thing])


def letter_row(floor, match, letter):
    """The row of the letter of this match that says this."""
    if not is_short(match):
        raise NoNumber()
    if not is_letter(floor, letter):
        raise NoLetter()
    return row_of_letter(match, letter)


def row_of_letter(match, letter):
    """As letter_row, of what is known to be such a tuple, but that its numbers may be any below 2 ** 32."""
    if letter[0] == "say":
        _, robot, heard, done, counts = letter
        return sealed((SAYING,) + _wholes((match, robot, heard, done) + counts))
    _, counts, first, entries = letter
    return sealed((TELLING,) + _wholes((match,) + counts + (first,)) + entries_row(entries))


def _wholes(numbers):
    row = []
    for number in numbers:
        row.extend(whole(number))
    return tuple(row)
