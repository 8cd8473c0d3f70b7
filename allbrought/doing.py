"""What is done of a plan, what may be done next, and what robots hold then."""

from allbrought.errors import NotAmid, NotClosed, TooEarly
from allbrought.kinds import is_lot, is_number_below, is_tuple_of
from allbrought.steps import Web, cell_behind, cells_amid, load_behind


def is_closed(plan, thing):
    """Whether a thing tells how many steps each robot has done, and all that these hang on is done."""
    return _is_closed(Web(plan), thing)


def _is_closed(web, thing):
    if not is_tuple_of(thing, len(web.rows)):
        return False
    if not all([is_number_below(many, len(row) + 1) for many, row in zip(thing, web.rows)]):
        return False
    return all([
        _is_ready(web, thing, (robot, number))
        for robot, many in enumerate(thing)
        for number in range(many)
    ])


def _is_ready(web, done, name):
    return all([number < done[robot] for robot, number in web.ahead[name]])


def _web_of_closed(plan, done):
    web = Web(plan)
    if not _is_closed(web, done):
        raise NotClosed()
    return web


def _may(web, done, robot):
    return done[robot] < len(web.rows[robot]) and _is_ready(web, done, (robot, done[robot]))


def _all_that_may(web, done):
    return tuple([robot for robot in range(len(done)) if _may(web, done, robot)])


def may_do(plan, done):
    """The lot of the robots that may do their next steps."""
    return _all_that_may(_web_of_closed(plan, done), done)


def cells_of(plan, done):
    """The tuple of the cells in which robots stand when just this is done."""
    web = _web_of_closed(plan, done)
    return tuple([_cell_of(plan, web, done, robot) for robot in range(len(done))])


def _cell_of(plan, web, done, robot):
    return cell_behind(plan.tracks[robot][0][1], web.rows[robot][:done[robot]])


def loads_of(plan, done):
    """The tuple of the orders whose things robots carry, None without."""
    web = _web_of_closed(plan, done)
    return tuple([load_behind(row[:many]) for row, many in zip(web.rows, done)])


def held(plan, done, amid):
    """The tuple of the lots of cells that robots hold when some are amid their next steps."""
    web = _web_of_closed(plan, done)
    ready = _all_that_may(web, done)
    if not is_lot(amid) or not all([robot in ready for robot in amid]):
        raise NotAmid()
    cells = [(_cell_of(plan, web, done, robot),) for robot in range(len(done))]
    for robot in amid:
        cells[robot] = cells_amid(cells[robot][0], web.rows[robot][done[robot]])
    return tuple(cells)


def is_over(plan, done):
    """Whether all steps are done."""
    web = _web_of_closed(plan, done)
    return done == tuple([len(row) for row in web.rows])


def led(plan, done, robots):
    """What is done when these robots do their next steps, one behind the other."""
    web = _web_of_closed(plan, done)
    if not isinstance(robots, (list, tuple)):
        raise TooEarly(-1)
    then = list(done)
    for index, robot in enumerate(robots):
        if not is_number_below(robot, len(then)) or not _may(web, then, robot):
            raise TooEarly(index)
        then[robot] += 1
    return tuple(then)


def finish(plan, done):
    """A tuple of robots that leads from what is done to where all is done."""
    web = _web_of_closed(plan, done)
    # what a step hangs on has lesser ticks: so by ticks none is too early
    return tuple([robot for robot, number in web.by_tick if number >= done[robot]])
