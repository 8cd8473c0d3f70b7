"""The judge of plans, best paths, and the plain plan of entries."""

from allbrought.entries import is_order, orders_of, robots_inside
from allbrought.errors import NoRobot, NoStation
from allbrought.floors import homes, stations
from allbrought.kinds import is_number, is_number_below, is_tuple_of
from allbrought.laying import laid_behind, nothing_laid, path_behind, plan_laid
from allbrought.tracks import Plan, first_clash, is_tracks, made_job, stays


def is_plan(floor, entries, thing):
    """Whether a thing is a plan of these entries."""
    return (
        isinstance(thing, Plan)
        and is_tracks(floor, thing.tracks)
        and _are_jobs(floor, entries, thing.jobs)
        and _are_made(floor, entries, thing)
        and first_clash(floor, thing.tracks) is None
        and _keeps_turns(entries, thing)
    )


def _are_jobs(floor, entries, thing):
    """Whether a thing is a tuple of a job for each order, by a robot that is in when its entry is told."""
    orders = orders_of(entries)
    if not is_tuple_of(thing, len(orders)):
        return False
    return all([
        _is_job(job, robots_inside(len(homes(floor)), entries[:order[2]]))
        for job, order in zip(thing, orders)
    ])


def _is_job(thing, robots):
    return is_tuple_of(thing, 4) and all([is_number(item) for item in thing]) and thing[0] in robots


def _are_made(floor, entries, plan):
    """Whether the tracks make just these jobs, and end with them."""
    rows = [stays(track) for track in plan.tracks]
    ends = [0 for _ in plan.tracks]
    for job, (one, other, _) in zip(plan.jobs, orders_of(entries)):
        robot = job[0]
        route = (stations(floor)[one], stations(floor)[other], homes(floor)[robot])
        if job[1:] != made_job(rows[robot], ends[robot], route):
            return False
        ends[robot] = job[3]
    return ends == [track[-1][0] for track in plan.tracks]


def _keeps_turns(entries, plan):
    """Whether in each cell robots of later entries are behind the others of elder ones."""
    lasts = {}
    visits = _visits_by_entry(entries, plan)
    for entry in sorted(visits):
        for robot, cell, first, _ in visits[entry]:
            elder = [lasts.get((other, cell), -1) for other in range(len(plan.tracks)) if other != robot]
            if max(elder, default=-1) >= first:
                return False
        for robot, cell, _, last in visits[entry]:
            lasts[(robot, cell)] = last
    return True


def _visits_by_entry(entries, plan):
    """The dict from numbers of entries to lists of the visits (robot, cell, first tick, last tick) by their ways."""
    visits = {}
    for robot, track in enumerate(plan.tracks):
        left = stays(track)
        for job, order in zip(plan.jobs, orders_of(entries)):
            if job[0] == robot:
                by_job = [stay for stay in left if stay[1] < job[3]]
                left = left[len(by_job):]
                visits.setdefault(order[2], []).extend([(robot,) + stay for stay in by_job])
    return visits


def best_path(floor, entries, robot, order):
    """The pair (home tick, path) of a robot for an order that were the only one of one entry more."""
    if not is_number_below(robot, len(homes(floor))):
        raise NoRobot()
    if not is_order(floor, order):
        raise NoStation()
    return path_behind(laid_behind(nothing_laid(floor), entries), robot, order)


def plan_of(floor, entries):
    """The plain plan of these entries."""
    return plan_laid(laid_behind(nothing_laid(floor), entries))
