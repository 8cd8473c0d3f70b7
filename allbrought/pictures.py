"""Pictures of floors with robots on them, and what changes from one to another."""

from allbrought.doing import cells_of, loads_of
from allbrought.errors import NoChanges, NoHeld, NoLoads, NoPicture, Unlike
from allbrought.floors import cells, homes
from allbrought.kinds import is_lot, is_number, is_number_below, is_tuple_of
from allbrought.texts import floor_text

LETTERS = "abcdef"


def drawn(floor, held, loads):
    """The picture of a floor with the robots in the cells that they hold, and what they have."""
    _check_held(floor, held)
    _check_loads(floor, loads)
    signs = [list(row) for row in floor.rows]
    # the least robot is drawn last, over all others
    for robot in range(len(held) - 1, -1, -1):
        for cell in held[robot]:
            row, column = cells(floor)[cell]
            signs[row][column] = str(robot) if loads[robot] is None else LETTERS[robot]
    return _text_of(signs)


def _text_of(signs):
    return "".join(["".join(row) + "\n" for row in signs])


def _check_held(floor, thing):
    if not is_tuple_of(thing, len(homes(floor))):
        raise NoHeld()
    many = len(cells(floor))
    if not all([is_lot(lot) and all([cell < many for cell in lot]) for lot in thing]):
        raise NoHeld()


def _check_loads(floor, thing):
    if not is_tuple_of(thing, len(homes(floor))):
        raise NoLoads()
    if not all([load is None or is_number(load) for load in thing]):
        raise NoLoads()


def picture_of(floor, plan, done):
    """The picture of where robots stand, and what they have, when this is done."""
    return drawn(floor, tuple([(cell,) for cell in cells_of(plan, done)]), loads_of(plan, done))


def _rows_of(picture):
    """The list of the rows of a picture."""
    rows = picture.split("\n") if isinstance(picture, str) else [""]
    rest = rows.pop()
    if rest != "" or rows == [] or rows[0] == "":
        raise NoPicture()
    if not all([len(row) == len(rows[0]) and all([_is_sign(sign) for sign in row]) for row in rows]):
        raise NoPicture()
    return rows


def _is_sign(thing):
    return isinstance(thing, str) and len(thing) == 1 and " " <= thing <= "~"


def changes(one, other):
    """The ascending tuple of the (row, place, sign) at which the other picture has this sign, and the one has not."""
    rows = _rows_of(one)
    others = _rows_of(other)
    if len(rows) != len(others) or len(rows[0]) != len(others[0]):
        raise Unlike()
    return tuple([
        (row, place, sign)
        for row, signs in enumerate(others)
        for place, sign in enumerate(signs)
        if sign != rows[row][place]
    ])


def redrawn(picture, some):
    """The picture with these (row, place, sign), one behind another."""
    signs = [list(row) for row in _rows_of(picture)]
    if not isinstance(some, tuple) or not all([_is_change(signs, thing) for thing in some]):
        raise NoChanges()
    for row, place, sign in some:
        signs[row][place] = sign
    return _text_of(signs)


def _is_change(signs, thing):
    """Whether a thing is a triple of a row and a place of these signs, and a sign."""
    return (
        is_tuple_of(thing, 3)
        and is_number_below(thing[0], len(signs))
        and is_number_below(thing[1], len(signs[0]))
        and _is_sign(thing[2])
    )


class Screen:
    """A floor as it was shown last."""

    def __init__(self, floor):
        self._floor = floor
        self._picture = floor_text(floor)
        self._many = 0

    def show(self, held, loads):
        """Show where robots are, and what they have; return the changes from what was shown last."""
        picture = drawn(self._floor, held, loads)
        some = changes(self._picture, picture)
        self._picture = picture
        self._many += 1
        return some

    def picture(self):
        """The picture that was shown last, at first the floor's rows."""
        return self._picture

    def shown(self):
        """How many pictures were shown."""
        return self._many
