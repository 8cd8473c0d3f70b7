"""The steps of robots in a plan, and what they hang on."""

from allbrought.errors import NoRobot, NoStep
from allbrought.kinds import is_number_below, is_tuple_of


class Web:
    """The steps of a plan: by robots, by ticks, and what each of them hangs on."""

    def __init__(self, plan):
        self.rows = tuple([_steps_of(plan, robot) for robot in range(len(plan.tracks))])
        self.by_tick = _names_by_tick(self.rows)
        self.ahead = _all_ahead(self.rows, self.by_tick)


def _steps_of(plan, robot):
    track = plan.tracks[robot]
    found = [("go", pair[0], ahead[1], pair[1]) for ahead, pair in zip(track, track[1:])]
    for order, (who, take, put, _) in enumerate(plan.jobs):
        if who == robot:
            found.append(("take", take + 1, order))
            found.append(("put", put + 1, order))
    return tuple(sorted(found, key=lambda step: step[1]))


def _names_by_tick(rows):
    """The list of the pairs (robot, number) of all steps, by their ticks."""
    places = [(step[1], robot, number) for robot, row in enumerate(rows) for number, step in enumerate(row)]
    return [(robot, number) for _, robot, number in sorted(places)]


def _all_ahead(rows, names):
    """The dict from each name of a step, these being by their ticks, to the tuple of those that it hangs on."""
    ahead = {}
    outs = {}
    for robot, number in names:
        step = rows[robot][number]
        hung_on = [(robot, number - 1)] if number > 0 else []
        if step[0] == "go":
            hung_on.extend(_last_out(outs.get(step[3], {}), robot))
            outs.setdefault(step[2], {})[robot] = (step[1], number)
        ahead[(robot, number)] = tuple(sorted(hung_on))
    return ahead


def _last_out(outs, robot):
    """The list, perhaps empty, of the last go of another robot; outs are the last ones of all out of a cell."""
    others = [(tick, other, number) for other, (tick, number) in outs.items() if other != robot]
    return [max(others)[1:]] if others else []


def is_step_of(web, thing):
    """Whether a thing is the pair (robot, number) of a step."""
    return (
        is_tuple_of(thing, 2)
        and is_number_below(thing[0], len(web.rows))
        and is_number_below(thing[1], len(web.rows[thing[0]]))
    )


def steps(plan, robot):
    """The tuple of the steps of a robot, by their ticks."""
    if not is_number_below(robot, len(plan.tracks)):
        raise NoRobot()
    return _steps_of(plan, robot)


def many_steps(plan, robot):
    """How many steps a robot has."""
    return len(plan.tracks[robot]) - 1 + 2 * len([job for job in plan.jobs if job[0] == robot])


def cell_behind(home, row):
    """The cell in which a robot of this home stands behind a row of its steps, from its first one on."""
    cells = [step[3] for step in row if step[0] == "go"]
    return cells[-1] if cells else home


def load_behind(row):
    """The number of the order that a robot carries behind a row of its steps, from its first one on; None without."""
    deeds = [step for step in row if step[0] != "go"]
    return deeds[-1][2] if deeds and deeds[-1][0] == "take" else None


def cells_amid(cell, step):
    """The lot of the cells that a robot holds that stands in this one and is amid a step."""
    return tuple(sorted(step[2:])) if step[0] == "go" else (cell,)


def hangs_on(plan, step):
    """The ascending tuple of the steps that a step hangs on."""
    web = Web(plan)
    if not is_step_of(web, step):
        raise NoStep()
    return web.ahead[step]


def hangings(plan):
    """The dict from all steps to the tuples of those that they hang on."""
    web = Web(plan)
    return {name: web.ahead[name] for name in sorted(web.by_tick)}


def is_before(plan, one, other):
    """Whether the one step must be done ahead of the other, whatever comes."""
    web = Web(plan)
    if not is_step_of(web, one) or not is_step_of(web, other):
        raise NoStep()
    reached = {}
    left = list(web.ahead[other])
    while left:
        name = left.pop()
        if name not in reached:
            reached[name] = True
            left.extend(web.ahead[name])
    return one in reached


def chain(plan, step):
    """A longest tuple of steps, the last this one, each hanging on the one ahead."""
    web = Web(plan)
    if not is_step_of(web, step):
        raise NoStep()
    lengths = {}
    for name in web.by_tick:
        lengths[name] = 1 + max([lengths[elder] for elder in web.ahead[name]], default=0)
    return chain_back(web, lengths, step)


def chain_back(web, worths, step):
    """The tuple of steps up to this one, each hanging on the one ahead, which is of all these of the most worth."""
    names = [step]
    while web.ahead[names[-1]]:
        names.append(max(web.ahead[names[-1]], key=lambda name: worths[name]))
    return tuple(names[::-1])
