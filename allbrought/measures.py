"""How busy the cells of a plan are, where robots rest, and the least that orders need."""

from allbrought.errors import NoRobot
from allbrought.floors import far, homes
from allbrought.kinds import is_number_below
from allbrought.tracks import cell_at, stays


def _gos_by_cell(plan):
    """The dict from cells to how many gos lead into them."""
    counts = {}
    for track in plan.tracks:
        for _, cell in track[1:]:
            counts[cell] = counts.get(cell, 0) + 1
    return counts


def passes(plan, cell):
    """How many gos lead into a cell."""
    return _gos_by_cell(plan).get(cell, 0)


def busiest(plan):
    """The least cell into which the most gos lead, None without gos."""
    counts = _gos_by_cell(plan)
    return min(sorted(counts), key=lambda cell: -counts[cell], default=None)


def rests(plan, robot):
    """The list of the stays (cell, from, to) of more than one tick, away from home, without taking or putting.

    A stay for ever, which only a track has that ends away from home, is to None.
    """
    if not is_number_below(robot, len(plan.tracks)):
        raise NoRobot()
    track = plan.tracks[robot]
    deeds = [tick for job in plan.jobs if job[0] == robot for tick in job[1:3]]
    return [
        (cell, first, last)
        for cell, first, last in stays(track)
        if cell != track[0][1] and last != first and not _is_any_within(deeds, first, last)
    ]


def _is_any_within(ticks, first, last):
    return any([first <= tick and (last is None or tick <= last) for tick in ticks])


def bounds(floor, plan):
    """The tuple, for each order, of the least ticks that its robot needs for it alone on the floor."""
    return tuple([_bound(floor, plan, job) for job in plan.jobs])


def _bound(floor, plan, job):
    robot, take, put, _ = job
    track = plan.tracks[robot]
    home = homes(floor)[robot]
    # a job is made where its robot is at these ticks
    route = [home, cell_at(track, take), cell_at(track, put), home]
    return 2 + sum([far(floor, robot, one, other) for one, other in zip(route, route[1:])])
