"""The document's words on rows, marks, changes, entries and letters, byte by byte, written apart from the package."""

WORDS = {"orders": 1, "out": 2, "in": 3}


def is_row(thing):
    return (
        type(thing) is tuple and len(thing) <= 300000
        and all(type(item) is int and 0 <= item <= 255 for item in thing)
    )


def whole(number):
    """Also of numbers that are too great for the package."""
    figures = []
    left = number
    while True:
        figures.insert(0, left % 128)
        left //= 128
        if left == 0:
            break
    return tuple(figure + 128 for figure in reversed(figures[1:])) + (figures[0],)


def wholes(*numbers):
    return tuple(byte for number in numbers for byte in whole(number))


def number_at(row, at):
    """The pair (number, place behind it), None if none below 2 ** 64 stands there."""
    for many in range(1, 11):
        part = row[at:at + many]
        if len(part) == many and part[-1] < 128 and all(byte >= 128 for byte in part[:-1]):
            number = sum(byte % 128 * 128 ** place for place, byte in enumerate(part))
            if whole(number) == part and number < 2 ** 64:
                return number, at + many
    return None


def mark(row):
    found = 1
    for byte in row:
        found = found * 1000003 + byte + 1
        found -= found // (2 ** 61 - 1) * (2 ** 61 - 1)
    return found


def parts_of(one, change):
    """The list of the parts (kind, many, bytes), or the place of the first that is none or goes too far."""
    found, at, left = [], 0, len(one)
    while at < len(change):
        read = number_at(change, at)
        if read is None or read[0] < 3:
            return at
        many, kind = divmod(read[0], 3)
        put = change[read[1]:read[1] + many] if kind == 2 else ()
        if (kind == 2 and len(put) < many) or (kind < 2 and many > left):
            return at
        left -= many if kind < 2 else 0
        found.append((kind, many, put))
        at = read[1] + len(put)
    return found


def become(one, parts):
    made, rest = [], list(one)
    for kind, many, put in parts:
        if kind == 2:
            made.extend(put)
        else:
            made.extend(rest[:many] if kind == 0 else [])
            del rest[:many]
    return tuple(made)


def entry(thing):
    word, what = thing
    if word == "orders":
        return (1,) + wholes(len(what), *[number for pair in what for number in pair])
    return (WORDS[word],) + whole(what)


def entries(things):
    return whole(len(things)) + tuple(byte for thing in things for byte in entry(thing))


def seal(row):
    return tuple((mark(row) % 2 ** 32).to_bytes(4, "little"))


def letter(match, told):
    """The row of the tuple of a letter, whatever its numbers are."""
    if told[0] == "say":
        row = (1,) + wholes(match, told[1], told[2], told[3], *told[4])
    else:
        row = (2,) + wholes(match, *told[1], told[2]) + entries(told[3])
    return row + seal(row)


def read_numbers(row, at, many, limit):
    """The pair (list of numbers below a limit, place behind them), or the place of the first that is none."""
    found = []
    for _ in range(many):
        read = number_at(row, at)
        if read is None or read[0] >= limit:
            return at
        found.append(read[0])
        at = read[1]
    return found, at


def read_entry(row, at):
    """The pair (entry, place behind it), or the place of the byte or number that is none."""
    words = {byte: word for word, byte in WORDS.items()}
    if at >= len(row) or row[at] not in words:
        return at
    word = words[row[at]]
    many = 1
    begin = at + 1
    if word == "orders":
        read = read_numbers(row, begin, 1, 7)
        if isinstance(read, int) or read[0] == [0]:
            return begin
        many, begin = 2 * read[0][0], read[1]
    read = read_numbers(row, begin, many, 2 ** 32)
    if isinstance(read, int):
        return read
    numbers, behind = read
    what = tuple(tuple(numbers[at:at + 2]) for at in range(0, many, 2)) if word == "orders" else numbers[0]
    return (word, what), behind


def read_entries(row, at):
    """The pair (list of entries, place behind them) of how many there are and their rows, or the place at fault."""
    read = read_numbers(row, at, 1, 2 ** 64)
    if isinstance(read, int):
        return read
    many, at = read[0][0], read[1]
    found = []
    while len(found) < many:
        read = read_entry(row, at)
        if isinstance(read, int):
            return read
        found.append(read[0])
        at = read[1]
    return found, at


def read_letter(match, robots, row):
    """What a letter to or from a host of this match and so many robots says, None for what is none."""
    if not is_row(row) or row[-4:] != seal(row[:-4]):
        return None
    row = row[:-4]
    found = read_numbers(row, 1, 1, 2 ** 32)
    if row[:1] not in ((1,), (2,)) or isinstance(found, int) or found[0] != [match]:
        return None
    many = robots + (3 if row[0] == 1 else 1)
    read = read_numbers(row, found[1], many, 100000)
    if isinstance(read, int):
        return None
    numbers, at = read
    if row[0] == 1:
        robot, heard, done = numbers[:3]
        is_right = at == len(row) and robot < robots and numbers[3 + robot] == done
        return ("say", robot, heard, done, tuple(numbers[3:])) if is_right else None
    read = read_entries(row, at)
    if isinstance(read, int) or read[1] != len(row) or len(read[0]) > 60:
        return None
    if any(number >= 100000 for entry in read[0] for number in numbers_of(entry)):
        return None
    return ("tell", tuple(numbers[:-1]), numbers[-1], tuple(read[0]))


def numbers_of(entry):
    word, what = entry
    return [number for pair in what for number in pair] if word == "orders" else [what]


def sealed_zero(match):
    """What begins as a letter of the match, and is sealed, but is none."""
    row = (1,) + wholes(match) + (0,) * 40
    return row + seal(row)
