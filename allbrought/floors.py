"""Floors of cells, and the ways on them."""

from allbrought.errors import BadFloor, NoCell, NoRobot, NoStation, NotWellFormed
from allbrought.kinds import is_lot, is_number_below

MOST = 12
MOST_HOMES = 6
SIGNS = ".#HS"


class Floor:
    """A floor, by its rows of signs; it never changes."""

    def __init__(self, rows):
        _check_rows(rows)
        self.rows = rows
        self._cells = _cells_of(rows)
        self._near = _near_of(self._cells)
        self._homes = _cells_with(self, "H")
        self._stations = _cells_with(self, "S")

    def __eq__(self, other):
        return isinstance(other, Floor) and self.rows == other.rows


def _check_rows(rows):
    if not isinstance(rows, tuple) or not 1 <= len(rows) <= MOST:
        raise BadFloor(-1)
    for number, row in enumerate(rows):
        if not _is_row(row) or len(row) != len(rows[0]):
            raise BadFloor(number)
    if not 1 <= sum([row.count("H") for row in rows]) <= MOST_HOMES:
        raise BadFloor("homes")


def _is_row(thing):
    return isinstance(thing, str) and 1 <= len(thing) <= MOST and all([sign in SIGNS for sign in thing])


def _cells_of(rows):
    """The pairs (row, column) of all signs but walls."""
    return tuple([
        (row, column)
        for row, signs in enumerate(rows)
        for column, sign in enumerate(signs)
        if sign != "#"
    ])


def _near_of(pairs):
    """For each cell, of these pairs, the lot of the cells beside it."""
    numbers = {pair: number for number, pair in enumerate(pairs)}
    near = []
    for row, column in pairs:
        around = [(row - 1, column), (row, column - 1), (row, column + 1), (row + 1, column)]
        near.append(tuple([numbers[pair] for pair in around if pair in numbers]))
    return tuple(near)


def _cells_with(floor, sign):
    return tuple([
        number
        for number, (row, column) in enumerate(floor._cells)
        if floor.rows[row][column] == sign
    ])


def cells(floor):
    """The tuple of the pairs (row, column) of all cells."""
    return floor._cells


def neighbours(floor, cell):
    """The lot of the cells right above, below, at the left and at the right of a cell."""
    if not is_number_below(cell, len(floor._cells)):
        raise NoCell()
    return floor._near[cell]


def homes(floor):
    """The lot of the cells that are homes, one for each robot."""
    return floor._homes


def stations(floor):
    """The lot of the cells that are stations."""
    return floor._stations


def is_open(floor, robot, cell):
    """Whether a thing is a cell of the floor, and no home of another robot."""
    return is_number_below(cell, len(floor._cells)) and cell not in _homes_of_others(floor, robot)


def _homes_of_others(floor, robot):
    return tuple([home for other, home in enumerate(floor._homes) if other != robot])


def _steps_to_all(floor, start, closed):
    """The dict, from each cell that is reached from the start past the closed ones, to the fewest steps."""
    steps = {start: 0}
    rim = [start]
    while rim:
        reached = []
        for cell in rim:
            for other in floor._near[cell]:
                if other not in steps and other not in closed:
                    steps[other] = steps[cell] + 1
                    reached.append(other)
        rim = reached
    return steps


def _check_errand(floor, robot, station):
    if not is_number_below(robot, len(floor._homes)):
        raise NoRobot()
    if not is_number_below(station, len(floor._stations)):
        raise NoStation()


def way(floor, robot, station):
    """A way of the fewest cells from the robot's home to the station, None if there is none."""
    _check_errand(floor, robot, station)
    steps = _steps_to_all(floor, floor._homes[robot], _homes_of_others(floor, robot))
    cell = floor._stations[station]
    if cell not in steps:
        return None
    row = [cell]
    while steps[cell] > 0:
        cell = _one_nearer(floor, steps, cell)
        row.append(cell)
    return tuple(row[::-1])


def _one_nearer(floor, steps, cell):
    nearer = [other for other in floor._near[cell] if steps.get(other, -1) == steps[cell] - 1]
    return nearer[0]


def barring(floor, robot, station):
    """Homes of others of which each way from the robot's home to the station takes one, None if way is there."""
    _check_errand(floor, robot, station)
    others = _homes_of_others(floor, robot)
    steps = _steps_to_all(floor, floor._homes[robot], others)
    if floor._stations[station] in steps:
        return None
    return tuple([home for home in others if any([cell in steps for cell in floor._near[home]])])


def is_barring(floor, robot, station, thing):
    """Whether a thing could be what barring tells."""
    _check_errand(floor, robot, station)
    others = _homes_of_others(floor, robot)
    if not is_lot(thing) or not all([home in others for home in thing]):
        return False
    return floor._stations[station] not in _steps_to_all(floor, floor._homes[robot], thing)


def barred(floor):
    """The least pair (robot, station) without a way, None if there is none."""
    for robot, home in enumerate(floor._homes):
        steps = _steps_to_all(floor, home, _homes_of_others(floor, robot))
        for station, cell in enumerate(floor._stations):
            if cell not in steps:
                return (robot, station)
    return None


def check_well_formed(floor):
    """See to it that each robot has a way to each station of a floor."""
    pair = barred(floor)
    if pair is not None:
        raise NotWellFormed(pair[0], pair[1])


def is_well_formed(floor):
    """Whether a thing is a floor on which each robot has a way to each station."""
    return isinstance(floor, Floor) and barred(floor) is None


def far(floor, robot, one, other):
    """The fewest steps between two cells that are open to the robot, None if no way is."""
    if not is_number_below(robot, len(floor._homes)):
        raise NoRobot()
    if not is_open(floor, robot, one) or not is_open(floor, robot, other):
        raise NoCell()
    return _steps_to_all(floor, one, _homes_of_others(floor, robot)).get(other)
