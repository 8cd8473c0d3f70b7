"""How orders are laid, one behind the other, into the plain plan."""

from allbrought.floors import homes
from allbrought.paths import Errand, Ground, best_row, free_spans, layers_of
from allbrought.tracks import Plan, made_job, stays


class Laid:
    """What some entries are laid out as; it never changes.

    lasts keeps, for each robot, the dict from cells to the last tick at which it is in them by its ways.
    """

    def __init__(self, ground, inside, tracks, jobs, lasts):
        self.ground = ground
        self.inside = inside
        self.tracks = tracks
        self.jobs = jobs
        self.lasts = lasts


def nothing_laid(floor):
    """What no entry at all is laid out as."""
    places = homes(floor)
    tracks = tuple([((0, home),) for home in places])
    return Laid(Ground(floor), (True,) * len(places), tracks, (), tuple([{} for _ in places]))


def laid_behind(laid, entries):
    """What is laid out when these entries come behind those that are."""
    for word, what in entries:
        if word == "orders":
            laid = _with_orders(laid, what)
        else:
            laid = _with_robot(laid, what, word == "in")
    return laid


def plan_laid(laid):
    """The plan of what is laid out."""
    return Plan(laid.tracks, laid.jobs)


def path_behind(laid, robot, order):
    """The pair (home tick, path) of a robot for an order that is an entry of its own, None if there is no path."""
    errand = _errand(laid, robot, order)
    layers = layers_of(errand, free_spans(errand, _bars(laid, (), robot)))
    if layers is None:
        return None
    return (errand.start + len(layers) - 1, best_row(errand, layers))


def _errand(laid, robot, order):
    # a track ends at the home tick of the last job
    return Errand(laid.ground, robot, laid.tracks[robot][-1][0], order)


def _bars(laid, fresh, robot):
    """The triples (cell, first tick, last tick) that are barred to a robot.

    fresh are the visits (robot, cell, first tick, last tick) by ways of the orders ahead of the same entry.
    """
    bars = []
    for other, lasts in enumerate(laid.lasts):
        if other != robot:
            bars.extend([(cell, 0, last + 1) for cell, last in lasts.items()])
    bars.extend([(cell, first - 1, last + 1) for other, cell, first, last in fresh if other != robot])
    return bars


def _with_robot(laid, robot, is_in):
    inside = laid.inside[:robot] + (is_in,) + laid.inside[robot + 1:]
    return Laid(laid.ground, inside, laid.tracks, laid.jobs, laid.lasts)


def _with_orders(laid, orders):
    fresh = []
    for order in orders:
        robot, rows, job = _way_laid(laid, fresh, order)
        home = laid.ground.homes[robot]
        fresh.extend([(robot, cell, first, last) for cell, first, last in rows if cell != home])
        track = laid.tracks[robot] + tuple([(first, cell) for cell, first, _ in rows[1:]])
        tracks = laid.tracks[:robot] + (track,) + laid.tracks[robot + 1:]
        laid = Laid(laid.ground, laid.inside, tracks, laid.jobs + ((robot,) + job,), laid.lasts)
    lasts = tuple([{cell: last for cell, last in some.items()} for some in laid.lasts])
    for robot, cell, _, last in fresh:
        lasts[robot][cell] = last
    return Laid(laid.ground, laid.inside, laid.tracks, laid.jobs, lasts)


def _way_laid(laid, fresh, order):
    """The robot that gets an order, the stays of its best path, from its home on, and the ticks of its job."""
    least = None
    for robot in range(len(laid.inside)):
        if laid.inside[robot]:
            errand = _errand(laid, robot, order)
            layers = layers_of(errand, free_spans(errand, _bars(laid, fresh, robot)))
            if layers is not None and (least is None or errand.start + len(layers) < least[0]):
                least = (errand.start + len(layers), robot, errand, layers)
    _, robot, errand, layers = least
    rows = _stays_of(errand, best_row(errand, layers))
    return robot, rows, made_job(rows, errand.start, (errand.one, errand.other, errand.home))


def _stays_of(errand, row):
    """The stays of a row of cells, tick by tick, from the errand's start on."""
    track = [
        (errand.start + at, cell)
        for at, cell in enumerate(row)
        if at == 0 or cell != row[at - 1]
    ]
    return stays(track)
