"""How long steps take, and when they end if none waits longer than it must."""

from allbrought.errors import NoStep, NoTimes
from allbrought.kinds import is_int, is_tuple_of
from allbrought.steps import Web, chain_back, is_step_of

MOST_TIME = 1000


def _web_with_times(plan, times):
    web = Web(plan)
    if not is_tuple_of(times, len(web.rows)):
        raise NoTimes()
    if not all([_are_times(row, some) for row, some in zip(web.rows, times)]):
        raise NoTimes()
    return web


def _are_times(row, thing):
    return is_tuple_of(thing, len(row)) and all([is_int(item) and 1 <= item <= MOST_TIME for item in thing])


def _ends_by_name(web, times):
    """The dict from names of steps to when they end."""
    found = {}
    for name in web.by_tick:
        begin = max([found[elder] for elder in web.ahead[name]], default=0)
        found[name] = begin + times[name[0]][name[1]]
    return found


def ends(plan, times):
    """The tuple, for each robot, of the tuple of when its steps end."""
    web = _web_with_times(plan, times)
    found = _ends_by_name(web, times)
    return tuple([
        tuple([found[(robot, number)] for number in range(len(row))])
        for robot, row in enumerate(web.rows)
    ])


def whole_time(plan, times):
    """When the last step ends, 0 without steps."""
    web = _web_with_times(plan, times)
    return _whole_time(_ends_by_name(web, times))


def _whole_time(found):
    return max(list(found.values()), default=0)


def critical(plan, times):
    """A tuple of steps, each hanging on the one ahead, whose times add up to the whole time."""
    web = _web_with_times(plan, times)
    if not web.by_tick:
        return ()
    found = _ends_by_name(web, times)
    # a step begins when the last of those that it hangs on ends: so there is no time between them
    return chain_back(web, found, max(web.by_tick, key=lambda name: found[name]))


def slack(plan, times, step):
    """By how much the time of a step can grow, the whole time staying."""
    web = _web_with_times(plan, times)
    if not is_step_of(web, step):
        raise NoStep()
    found = _ends_by_name(web, times)
    return _whole_time(found) - found[step] - _times_behind(web, times)[step]


def _times_behind(web, times):
    """The dict from names of steps to the longest time that must pass behind their ends."""
    behind = {name: 0 for name in web.by_tick}
    for name in web.by_tick[::-1]:
        for elder in web.ahead[name]:
            behind[elder] = max(behind[elder], behind[name] + times[name[0]][name[1]])
    return behind
