"""Tracks of robots, the jobs that they make, and where they clash."""

from allbrought.errors import NoCell, NoRobot, NoTick, NoTracks
from allbrought.floors import homes, is_open, neighbours
from allbrought.kinds import is_number, is_number_below, is_tuple_of

LAST_TICK = 1000000000


class Plan:
    """A track for each robot and a job for each order, as passed; it never changes."""

    def __init__(self, tracks, jobs):
        self.tracks = tracks
        self.jobs = jobs

    def __eq__(self, other):
        return isinstance(other, Plan) and self.tracks == other.tracks and self.jobs == other.jobs


def where(plan, tick):
    """The tuple of the cells in which robots are at a tick."""
    if not is_number_below(tick, LAST_TICK + 1):
        raise NoTick()
    return tuple([cell_at(track, tick) for track in plan.tracks])


def cell_at(track, tick):
    """The cell in which a robot is at a tick."""
    cell = track[0][1]
    for first, place in track:
        if first > tick:
            break
        cell = place
    return cell


def last_tick(plan):
    """The greatest tick of a pair of a track."""
    return max([track[-1][0] for track in plan.tracks])


def stays(track):
    """The list of the stays (cell, first tick, last tick) of a track, the last one's last tick being None."""
    rows = []
    for at, (tick, cell) in enumerate(track):
        last = track[at + 1][0] - 1 if at + 1 < len(track) else None
        rows.append((cell, tick, last))
    return rows


def made_job(rows, start, route):
    """The ticks (take, put, home) that these stays make, from a tick on, by a route (one, other, home) of cells.

    None if they do not make all three.
    """
    one, other, home = route
    take = _first_tick(rows, one, start, 1)
    put = None if take is None else _first_tick(rows, other, take + 1, 1)
    back = None if put is None else _first_tick(rows, home, put + 1, 0)
    return None if back is None else (take, put, back)


def _first_tick(rows, cell, start, more):
    """The least tick, from the start on, that begins so many more ticks in the cell; None without."""
    for place, first, last in rows:
        tick = max(first, start)
        if place == cell and (last is None or tick + more <= last):
            return tick
    return None


def is_tracks(floor, thing):
    """Whether a thing is a tuple of a track for each robot."""
    if not is_tuple_of(thing, len(homes(floor))):
        return False
    return all([_is_track(floor, robot, track) for robot, track in enumerate(thing)])


def _is_track(floor, robot, thing):
    if not isinstance(thing, tuple) or thing == ():
        return False
    if not all([_is_visit(floor, robot, pair) for pair in thing]):
        return False
    if thing[0] != (0, homes(floor)[robot]):
        return False
    return all([
        ahead[0] < pair[0] and pair[1] in neighbours(floor, ahead[1])
        for ahead, pair in zip(thing, thing[1:])
    ])


def _is_visit(floor, robot, thing):
    return is_tuple_of(thing, 2) and is_number(thing[0]) and is_open(floor, robot, thing[1])


def first_clash(floor, tracks):
    """The least (tick, later, robot, other) of two robots in one cell at ticks that differ by 1 or less.

    None if the tracks are apart.
    """
    if not is_tracks(floor, tracks):
        raise NoTracks()
    clashes = []
    for visits in _visits_by_cell(tracks).values():
        clashes.extend(_clashes_in_cell(sorted(visits)))
    return min(clashes, default=None)


def _visits_by_cell(tracks):
    """The dict from cells to lists of (first tick, last tick, robot); what is for ever ends behind all others."""
    end = max([track[-1][0] for track in tracks])
    visits = {}
    for robot, track in enumerate(tracks):
        for cell, first, last in stays(track):
            visits.setdefault(cell, []).append((first, end if last is None else last, robot))
    return visits


def _clashes_in_cell(visits):
    """The list of the least clashes of each two of these ascending visits of one cell that clash."""
    clashes = []
    for number, visit in enumerate(visits):
        at = number + 1
        while at < len(visits) and visits[at][0] <= visit[1] + 1:
            if visits[at][2] != visit[2]:
                clashes.append(_clash_of_two(visit, visits[at]))
            at += 1
    return clashes


def _clash_of_two(visit, other):
    """The least clash of a visit and of another one that begins at this one's ticks, or right behind them."""
    tick = other[0]
    if visit[0] < tick:
        return (tick - 1, tick, visit[2], other[2])
    return (tick, tick, min(visit[2], other[2]), max(visit[2], other[2]))


def stretches(plan, cell, robot):
    """The list of the longest runs (from, to) of ticks in and beside which no other robot is in the cell."""
    if not is_number(cell):
        raise NoCell()
    if not is_number_below(robot, len(plan.tracks)):
        raise NoRobot()
    runs = []
    start = 0
    for first, last in _visits_of_others(plan, cell, robot):
        if start < first - 1:
            runs.append((start, first - 2))
        if last is None:
            return runs
        start = max(start, last + 2)
    runs.append((start, None))
    return runs


def _visits_of_others(plan, cell, robot):
    """The list of the (first tick, last tick) of other robots in a cell, by their first ticks."""
    visits = []
    for other, track in enumerate(plan.tracks):
        if other != robot:
            visits.extend([(first, last) for place, first, last in stays(track) if place == cell])
    return sorted(visits, key=lambda visit: visit[0])
